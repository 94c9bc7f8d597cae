import datetime
import unittest

from tests.helper import (FIRST_JULIAN, FIRST_REPUBLICAN, LARGEST_NUMBER, LAST_GREGORIAN, LAST_JULIAN,
                          LAST_REPUBLICAN, ask_all, last_answer, read, show, shown_text, weekday)


class Show(unittest.TestCase):
    def test_first_and_last_day_of_each_calendar(self):
        self.assertEqual(shown_text(0, 0), "1700-01-01")
        self.assertEqual(shown_text(0, LAST_GREGORIAN), "2999-12-31")
        self.assertEqual(shown_text(1, FIRST_JULIAN), "J:1700-01-01")
        self.assertEqual(shown_text(1, LAST_JULIAN), "J:1999-12-31")
        self.assertEqual(shown_text(2, FIRST_REPUBLICAN), "R:1-01-01")
        self.assertEqual(shown_text(2, LAST_REPUBLICAN), "R:14-13-05")

    def test_the_answer_is_0_and_the_bytes(self):
        self.assertEqual(last_answer(show(0, 0)), [0, 49, 55, 48, 48, 45, 48, 49, 45, 48, 49])
        self.assertEqual(last_answer(show(2, FIRST_REPUBLICAN)), [0, 82, 58, 49, 45, 48, 49, 45, 48, 49])

    def test_leap_days(self):
        self.assertEqual(shown_text(0, 36524 + 58), "1800-02-28")
        self.assertEqual(shown_text(0, 36524 + 59), "1800-03-01")
        self.assertEqual(shown_text(1, 36594), "J:1800-02-29")
        self.assertEqual(shown_text(1, 36595), "J:1800-03-01")
        self.assertEqual(shown_text(2, FIRST_REPUBLICAN + 3 * 365), "R:3-13-06")
        self.assertEqual(shown_text(2, FIRST_REPUBLICAN + 3 * 365 + 1), "R:4-01-01")

    def test_republican_years_of_two_digits(self):
        self.assertEqual(shown_text(2, FIRST_REPUBLICAN + 9 * 365 + 1), "R:9-13-05")
        self.assertEqual(shown_text(2, FIRST_REPUBLICAN + 9 * 365 + 2), "R:10-01-01")

    def test_every_gregorian_year_as_the_standard_library_shows_it(self):
        origin = datetime.date(1700, 1, 1)
        days = list(range(0, LAST_GREGORIAN + 1, 29))
        for year in range(1701, 3000):
            start = (datetime.date(year, 1, 1) - origin).days
            days.extend([start - 1, start, start + 58, start + 59, start + 60])
        expected = [(origin + datetime.timedelta(day)).isoformat() for day in days]
        taken = ask_all([show(0, day) for day in days])
        self.assertEqual([bytes(answer[1:]).decode() for answer in taken], expected)

    def check_read_again(self, calendar, days):
        texts = [answer[1:] for answer in ask_all([show(calendar, day) for day in days])]
        self.assertEqual(ask_all([read(text) for text in texts]), [[0, day, day] for day in days])

    def test_what_is_shown_is_read_to_that_day(self):
        self.check_read_again(0, range(0, LAST_GREGORIAN + 1, 31))
        self.check_read_again(1, range(FIRST_JULIAN, LAST_JULIAN + 1, 7))
        self.check_read_again(2, range(FIRST_REPUBLICAN, LAST_REPUBLICAN + 1))

    def test_days_that_a_calendar_does_not_reach(self):
        for calendar, day in ((1, 0), (1, FIRST_JULIAN - 1), (1, LAST_JULIAN + 1), (1, LAST_GREGORIAN),
                              (2, 0), (2, FIRST_REPUBLICAN - 1), (2, LAST_REPUBLICAN + 1), (2, LAST_GREGORIAN)):
            self.assertEqual(last_answer(show(calendar, day)), [-2], (calendar, day))

    def test_calendars_and_days_out_of_range(self):
        for calendar, day in ((-1, 0), (3, 0), (LARGEST_NUMBER, 0), (-LARGEST_NUMBER, 0), (0, -1),
                              (0, LAST_GREGORIAN + 1), (0, LARGEST_NUMBER), (0, -LARGEST_NUMBER), (3, -1)):
            self.assertEqual(last_answer(show(calendar, day)), [-9], (calendar, day))

    def test_range_comes_before_reach(self):
        for calendar, day in ((1, -1), (2, -1), (1, LAST_GREGORIAN + 1), (2, LAST_GREGORIAN + 1), (-1, 33867)):
            self.assertEqual(last_answer(show(calendar, day)), [-9], (calendar, day))


class Weekday(unittest.TestCase):
    def test_first_and_last_day(self):
        self.assertEqual(last_answer(weekday(0)), [5])
        self.assertEqual(last_answer(weekday(LAST_GREGORIAN)), [datetime.date(2999, 12, 31).isoweekday()])

    def test_a_week(self):
        self.assertEqual(ask_all([weekday(day) for day in range(8)]), [[5], [6], [7], [1], [2], [3], [4], [5]])

    def test_as_the_standard_library_has_it(self):
        origin = datetime.date(1700, 1, 1)
        days = list(range(0, LAST_GREGORIAN + 1, 101))
        expected = [[(origin + datetime.timedelta(day)).isoweekday()] for day in days]
        self.assertEqual(ask_all([weekday(day) for day in days]), expected)

    def test_days_outside(self):
        for day in (-1, LAST_GREGORIAN + 1, -7, LARGEST_NUMBER, -LARGEST_NUMBER):
            self.assertEqual(last_answer(weekday(day)), [-9], day)


if __name__ == "__main__":
    unittest.main()
