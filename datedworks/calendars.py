"""Days as whole numbers, and the three calendars that name them.

A date is a list of one to three numbers: a year, a year and a month, or a year, a month and a day.
"""

LAST_DAY = 474814

GREGORIAN = 0
JULIAN = 1
REPUBLICAN = 2

# One entry for each calendar, in the order of their numbers.
FIRST_DAYS = (0, 10, 33867)
FIRST_YEARS = (1700, 1700, 1)
LAST_YEARS = (2999, 1999, 14)
MONTH_COUNTS = (12, 12, 13)

MONTH_LENGTHS = (31, 28, 31, 30, 31, 30, 31, 31, 30, 31, 30, 31)
REPUBLICAN_LEAP_YEARS = (3, 7, 11)


def is_day(number):
    return 0 <= number <= LAST_DAY


def is_calendar(number):
    return GREGORIAN <= number <= REPUBLICAN


def weekday_of(day):
    """1 for Monday to 7 for Sunday."""
    # Day 0 is a Friday, four days behind a Monday.
    return (day + 4) % 7 + 1


def is_leap_year(calendar, year):
    if calendar == GREGORIAN:
        return (year % 4 == 0 and year % 100 != 0) or year % 400 == 0
    if calendar == JULIAN:
        return year % 4 == 0
    return year in REPUBLICAN_LEAP_YEARS


def leap_years_up_to(calendar, year):
    """How many leap years there are from year 1 to this one, this one included."""
    if calendar == GREGORIAN:
        return year // 4 - year // 100 + year // 400
    if calendar == JULIAN:
        return year // 4
    return len([leap for leap in REPUBLICAN_LEAP_YEARS if leap <= year])


def first_day_of_year(calendar, year):
    """Also of the year behind the calendar's last one: the first day that it doesn't reach."""
    first_year = FIRST_YEARS[calendar]
    leap_days = leap_years_up_to(calendar, year - 1) - leap_years_up_to(calendar, first_year - 1)
    return FIRST_DAYS[calendar] + 365 * (year - first_year) + leap_days


def month_length(calendar, year, month):
    leap_day = 1 if is_leap_year(calendar, year) else 0
    if calendar == REPUBLICAN:
        return 30 if month <= 12 else 5 + leap_day
    return MONTH_LENGTHS[month - 1] + (leap_day if month == 2 else 0)


def first_day_of_month(calendar, year, month):
    lengths = [month_length(calendar, year, earlier) for earlier in range(1, month)]
    return first_day_of_year(calendar, year) + sum(lengths)


def reaches(calendar, day):
    return FIRST_DAYS[calendar] <= day < first_day_of_year(calendar, LAST_YEARS[calendar] + 1)


def is_date(calendar, date):
    if not FIRST_YEARS[calendar] <= date[0] <= LAST_YEARS[calendar]:
        return False
    if len(date) >= 2 and not 1 <= date[1] <= MONTH_COUNTS[calendar]:
        return False
    return len(date) < 3 or 1 <= date[2] <= month_length(calendar, date[0], date[1])


def first_day_of(calendar, date):
    if len(date) == 1:
        return first_day_of_year(calendar, date[0])
    month_start = first_day_of_month(calendar, date[0], date[1])
    return month_start if len(date) == 2 else month_start + date[2] - 1


def last_day_of(calendar, date):
    if len(date) == 1:
        return first_day_of_year(calendar, date[0] + 1) - 1
    if len(date) == 2:
        return first_day_of(calendar, date) + month_length(calendar, date[0], date[1]) - 1
    return first_day_of(calendar, date)


def year_of(calendar, day):
    # No year is longer than 366 days, so this guess is never too late, and only a few years too early.
    year = FIRST_YEARS[calendar] + (day - FIRST_DAYS[calendar]) // 366
    while first_day_of_year(calendar, year + 1) <= day:
        year = year + 1
    return year


def date_of(calendar, day):
    """The date (year, month, day) of a day that the calendar reaches."""
    year = year_of(calendar, day)
    left = day - first_day_of_year(calendar, year)
    month = 1
    while left >= month_length(calendar, year, month):
        left = left - month_length(calendar, year, month)
        month = month + 1
    return [year, month, left + 1]
