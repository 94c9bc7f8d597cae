import datetime
import unittest

from tests.helper import (FIRST_JULIAN, FIRST_REPUBLICAN, LAST_GREGORIAN, LAST_JULIAN, LAST_REPUBLICAN,
                          ask_all, last_answer, read)


def day_of(year, month, day):
    return (datetime.date(year, month, day) - datetime.date(1700, 1, 1)).days


def answer(text):
    return last_answer(read(text))


class Ordinary(unittest.TestCase):
    def test_examples_of_the_document(self):
        self.assertEqual(answer("1758"), [0, 21184, 21548])
        self.assertEqual(answer("J:1800-02-29"), [0, 36594, 36594])
        self.assertEqual(answer("1800-02-29"), [-2])
        self.assertEqual(answer("1800..1800-03"), [0, day_of(1800, 1, 1), day_of(1800, 3, 31)])
        self.assertEqual(answer("1800-04..1800-03"), [-3])
        for text in ("1800-", "800", "R:07"):
            self.assertEqual(answer(text), [-1], text)
        self.assertEqual(answer("R:15"), [-2])
        self.assertEqual(answer("1820"), [0, day_of(1820, 1, 1), 44193])
        self.assertEqual(answer("1820-06..1821"), [0, 43980, day_of(1821, 12, 31)])

    def test_one_part(self):
        self.assertEqual(answer("1799-06"), [0, day_of(1799, 6, 1), day_of(1799, 6, 30)])
        self.assertEqual(answer("1799-06-17"), [0, day_of(1799, 6, 17)] + [day_of(1799, 6, 17)])
        self.assertEqual(answer("J:1799-06"), [0, day_of(1799, 6, 12), day_of(1799, 7, 11)])
        self.assertEqual(answer("R:4-13"), [0, day_of(1796, 9, 17), day_of(1796, 9, 21)])
        self.assertEqual(answer("R:8-02-18"), [0, day_of(1799, 11, 9), day_of(1799, 11, 9)])

    def test_two_parts(self):
        self.assertEqual(answer("1758-01-02..1758-01-02"), [0, 21185, 21185])
        self.assertEqual(answer("1758-01-02..1758"), [0, 21185, 21548])
        self.assertEqual(answer("1758..1758-01-02"), [0, 21184, 21185])
        self.assertEqual(answer("1758-12..1759-01"), [0, day_of(1758, 12, 1), day_of(1759, 1, 31)])
        self.assertEqual(answer("1758-12-31..1758-01-01"), [-3])

    def test_a_first_part_that_begins_within_the_second(self):
        self.assertEqual(answer("1758-12-31..1758"), [0, 21548, 21548])
        self.assertEqual(answer("1758-06..1758-06-01"), [0, day_of(1758, 6, 1), day_of(1758, 6, 1)])
        self.assertEqual(answer("1758-06-02..1758-06-01"), [-3])

    def test_two_parts_of_different_calendars(self):
        self.assertEqual(answer("J:1800..R:10"), [0, day_of(1800, 1, 12), day_of(1802, 9, 22)])
        self.assertEqual(answer("R:1..1799"), [0, FIRST_REPUBLICAN, day_of(1799, 12, 31)])
        self.assertEqual(answer("1799..J:1799"), [0, day_of(1799, 1, 1), day_of(1800, 1, 11)])
        # The same day of the year is eleven days later in the Julian calendar.
        self.assertEqual(answer("J:1799-01-01..1799-01-12"), [0, day_of(1799, 1, 12), day_of(1799, 1, 12)])
        self.assertEqual(answer("J:1799-01-01..1799-01-11"), [-3])


class Calendars(unittest.TestCase):
    def test_first_and_last_day_of_each_calendar(self):
        self.assertEqual(answer("1700-01-01"), [0, 0, 0])
        self.assertEqual(answer("2999-12-31"), [0, LAST_GREGORIAN, LAST_GREGORIAN])
        self.assertEqual(answer("J:1700-01-01"), [0, FIRST_JULIAN, FIRST_JULIAN])
        self.assertEqual(answer("J:1999-12-31"), [0, LAST_JULIAN, LAST_JULIAN])
        self.assertEqual(answer("R:1-01-01"), [0, FIRST_REPUBLICAN, FIRST_REPUBLICAN])
        self.assertEqual(answer("R:14-13-05"), [0, LAST_REPUBLICAN, LAST_REPUBLICAN])
        self.assertEqual(answer("1700..2999"), [0, 0, LAST_GREGORIAN])
        self.assertEqual(answer("J:1700..J:1999"), [0, FIRST_JULIAN, LAST_JULIAN])
        self.assertEqual(answer("R:1..R:14"), [0, FIRST_REPUBLICAN, LAST_REPUBLICAN])

    def test_years_outside(self):
        for text in ("1699", "3000", "0000", "9999", "J:1699", "J:2000", "J:0000", "R:15", "R:99"):
            self.assertEqual(answer(text), [-2], text)

    def test_months_and_days_outside(self):
        for text in ("1758-00", "1758-13", "1758-99", "1758-01-00", "1758-01-32", "1758-04-31", "1758-06-31",
                     "1758-09-31", "1758-11-31", "1758-00-01", "1758-13-01", "J:1758-13", "J:1758-04-31",
                     "R:1-00", "R:1-14", "R:1-01-00", "R:1-01-31", "R:1-12-31", "R:1-13-00", "R:1-13-06"):
            self.assertEqual(answer(text), [-2], text)

    def test_leap_years(self):
        for year in ("1704", "1996", "2000", "2400", "2800", "2996", "J:1700", "J:1800", "J:1900", "J:1904"):
            first = answer(year + "-02-01")[1]
            self.assertEqual(answer(year + "-02"), [0, first, first + 28], year)
            self.assertEqual(answer(year + "-02-29"), [0, first + 28, first + 28], year)
            self.assertEqual(answer(year + "-02-30"), [-2], year)
        for year in ("R:3", "R:7", "R:11"):
            first = answer(year + "-13-01")[1]
            self.assertEqual(answer(year + "-13"), [0, first, first + 5], year)
            self.assertEqual(answer(year + "-13-06"), [0, first + 5, first + 5], year)
            self.assertEqual(answer(year + "-13-07"), [-2], year)

    def test_years_that_are_no_leap_years(self):
        for year in ("1700", "1702", "1800", "1900", "2100", "2900", "2999", "J:1701", "J:1902", "J:1999"):
            first = answer(year + "-02-01")[1]
            self.assertEqual(answer(year + "-02"), [0, first, first + 27], year)
            self.assertEqual(answer(year + "-02-29"), [-2], year)
        for year in (1, 2, 4, 5, 6, 8, 9, 10, 12, 13, 14):
            first = answer(f"R:{year}-13-01")[1]
            self.assertEqual(answer(f"R:{year}-13"), [0, first, first + 4], year)
            self.assertEqual(answer(f"R:{year}-13-06"), [-2], year)

    def test_every_month_of_the_gregorian_calendar(self):
        texts, days = [], []
        for year in range(1700, 3000):
            for month in range(1, 13):
                following = day_of(year, month + 1, 1) if month < 12 else day_of(year + 1, 1, 1)
                texts.append(f"{year}-{month:02}")
                days.append([0, day_of(year, month, 1), following - 1])
        self.assertEqual(ask_all([read(text) for text in texts]), days)

    def check_no_gaps(self, years, month_count, first, last):
        parts = [f"{year}-{month:02}" for year in years for month in range(1, month_count + 1)]
        expected = first
        for taken in ask_all([read(part) for part in parts]):
            self.assertEqual(taken[:2], [0, expected])
            expected = taken[2] + 1
        self.assertEqual(expected, last + 1)
        expected = first
        for taken in ask_all([read(year) for year in years]):
            self.assertEqual(taken[:2], [0, expected])
            expected = taken[2] + 1
        self.assertEqual(expected, last + 1)

    def test_the_julian_calendar_goes_on_without_a_gap(self):
        self.check_no_gaps([f"J:{year}" for year in range(1700, 2000)], 12, FIRST_JULIAN, LAST_JULIAN)

    def test_the_republican_calendar_goes_on_without_a_gap(self):
        self.check_no_gaps([f"R:{year}" for year in range(1, 15)], 13, FIRST_REPUBLICAN, LAST_REPUBLICAN)


class Refusals(unittest.TestCase):
    def check_no_form(self, texts):
        for text in texts:
            self.assertEqual(answer(text), [-1], text)

    def test_years(self):
        self.check_no_form(["", "1", "17", "175", "17580", "017580", "-1758", "+758", "175a", "a758", "R:", "R:0",
                            "R:00", "R:01", "R:001", "R:123", "R:a", "R:1a", "J:", "J:175", "J:17580", "J:1"])

    def test_months_and_days(self):
        self.check_no_form(["1758-", "1758-1", "1758-001", "1758-1a", "1758-a1", "1758-01-", "1758-01-1",
                            "1758-01-001", "1758-01-0a", "1758-01-01-", "1758-01-01-01", "1758--01", "1758-01--01",
                            "1758--", "-", "-01", "1758/01", "1758-01/01", "R:1-", "R:1-1", "R:1-01-1", "J:1758-1"])

    def test_marks(self):
        self.check_no_form(["J1758", "R1", "j:1758", "r:1", "G:1758", ":1758", "J::1758", "J:R:1", "JR:1", "R",
                            "J", "1758J:", "J :1758", "R:R:1", "J;1758", "0:1758"])

    def test_full_stops(self):
        self.check_no_form([".", "..", "...", "1758.", "1758..", ".1758", "..1758", "1758.1759", "1758...1759",
                            "1758....1759", "1758..1759..", "..1758..1759", "1758..1759..1760", "1758. .1759",
                            "1758.x1759", "1758x.1759", "1758.-1759", "1758--1759", "1758xx1759",
                            "1758..J:", "J:..1758", "1758..1759.", "1758-..1759", "1758..1759-", "1758..R:07"])

    def test_blanks_and_other_bytes(self):
        self.check_no_form([" 1758", "1758 ", "17 58", "1758 -01", "1758- 01", "J: 1758", "1758 ..1759", "1758.. 1759",
                            "1758\n", "1758\0", [0], [255] * 4, [49, 55, 53, 47], [49, 55, 53, 58], [178] * 4])

    def test_long_texts(self):
        self.check_no_form(["1" * 60, "." * 60, "-" * 60, "1758-01-01.." * 5, "J:" * 30])

    def test_form_comes_before_dates(self):
        self.check_no_form(["1699..800", "800..1699", "R:15..R:07", "1758-13-1", "1758-13..1758-1", "1699-02-3"])

    def test_form_comes_before_order(self):
        self.check_no_form(["1800..1799-", "1800-..1799", "1800..1799..1798"])

    def test_dates_come_before_order(self):
        for text in ("3000..1700", "1800..1699", "1800-04-31..1800-03", "1800-04..1800-02-29", "R:15..R:1"):
            self.assertEqual(answer(text), [-2], text)

    def test_either_part_may_name_no_date(self):
        for text in ("1699..1758", "1758..3000", "1699..3000", "1758-02-29..1759", "1757..1758-02-29"):
            self.assertEqual(answer(text), [-2], text)


if __name__ == "__main__":
    unittest.main()
