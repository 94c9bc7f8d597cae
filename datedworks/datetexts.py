"""Date texts: lists of bytes, read to intervals of days and shown for one day."""

from datedworks.calendars import GREGORIAN, JULIAN, REPUBLICAN
from datedworks.calendars import date_of, first_day_of, is_calendar, is_date, is_day, last_day_of, reaches
from datedworks.refusals import BAD_FORM, NO_DATE, OUT_OF_RANGE, WRONG_ORDER

HYPHEN = 45
FULL_STOP = 46
DIGIT_ZERO = 48
DIGIT_NINE = 57

# "J:" and "R:"
JULIAN_MARK = (74, 58)
REPUBLICAN_MARK = (82, 58)


def split_parts(text):
    """One part or two; a full stop that stands elsewhere stays in its part and spoils that part's form."""
    for place in range(len(text) - 1):
        if text[place] == FULL_STOP and text[place + 1] == FULL_STOP:
            return [text[:place], text[place + 2:]]
    return [text]


def split_at_hyphens(row):
    pieces = [[]]
    for byte in row:
        if byte == HYPHEN:
            pieces.append([])
        else:
            pieces[-1].append(byte)
    return pieces


def is_digits(piece):
    return all([DIGIT_ZERO <= byte <= DIGIT_NINE for byte in piece])


def decimal_value(piece):
    value = 0
    for byte in piece:
        value = value * 10 + byte - DIGIT_ZERO
    return value


def decimal_digits(number, width):
    """The bytes of a number in decimal, with zeros in front up to that width."""
    return [ord(sign) for sign in str(number).zfill(width)]


def mark_of(calendar):
    if calendar == JULIAN:
        return list(JULIAN_MARK)
    if calendar == REPUBLICAN:
        return list(REPUBLICAN_MARK)
    return []


def calendar_of(part):
    for calendar in (JULIAN, REPUBLICAN):
        if part[:2] == mark_of(calendar):
            return calendar
    return GREGORIAN


def is_year_form(calendar, piece):
    if not is_digits(piece):
        return False
    if calendar == REPUBLICAN:
        return 1 <= len(piece) <= 2 and piece[0] != DIGIT_ZERO
    return len(piece) == 4


def is_date_form(calendar, pieces):
    if len(pieces) > 3 or not is_year_form(calendar, pieces[0]):
        return False
    return all([len(piece) == 2 and is_digits(piece) for piece in pieces[1:]])


def parse_part(part):
    """The part's calendar and date, whether or not there is such a date; None if the part isn't of the form."""
    calendar = calendar_of(part)
    pieces = split_at_hyphens(part[len(mark_of(calendar)):])
    if not is_date_form(calendar, pieces):
        return None
    return (calendar, [decimal_value(piece) for piece in pieces])


def read_text(text):
    """0, the first day and the last day of the interval; or the refusal alone."""
    parts = [parse_part(part) for part in split_parts(text)]
    if None in parts:
        return [BAD_FORM]
    if not all([is_date(calendar, date) for calendar, date in parts]):
        return [NO_DATE]
    first = first_day_of(parts[0][0], parts[0][1])
    last = last_day_of(parts[-1][0], parts[-1][1])
    if first > last:
        return [WRONG_ORDER]
    return [0, first, last]


def show_day(calendar, day):
    """0 and the bytes of the text that names that day; or the refusal alone."""
    if not is_calendar(calendar) or not is_day(day):
        return [OUT_OF_RANGE]
    if not reaches(calendar, day):
        return [NO_DATE]
    date = date_of(calendar, day)
    year_width = 1 if calendar == REPUBLICAN else 4
    year = decimal_digits(date[0], year_width)
    month = decimal_digits(date[1], 2)
    return [0] + mark_of(calendar) + year + [HYPHEN] + month + [HYPHEN] + decimal_digits(date[2], 2)
