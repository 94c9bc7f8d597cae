import unittest

from tests.helper import (LARGEST_KEY, LARGEST_NUMBER, drop, first_numbers, follows, not_after, not_before, restate,
                          withdraw, within, work)

FORTY = [work(key, "1820") for key in range(1, 41)]
JANUARY_1 = 43828
DECEMBER_31 = 44193


def last_number(*calls):
    return first_numbers(*calls)[-1]


class Work(unittest.TestCase):
    def test_new_works(self):
        self.assertEqual(first_numbers(work(7, "1820"), work(8, "R:3..J:1900-02-29"), work(9, "1820")), [0, 0, 0])

    def test_the_stated_interval_is_what_the_text_is_read_to(self):
        put = work(7, "1820")
        self.assertEqual(last_number(put, not_before(1, 7, DECEMBER_31)), 0)
        self.assertEqual(last_number(put, not_before(1, 7, DECEMBER_31 + 1)), -7)
        self.assertEqual(last_number(put, not_after(1, 7, JANUARY_1)), 0)
        self.assertEqual(last_number(put, not_after(1, 7, JANUARY_1 - 1)), -7)

    def test_keys_out_of_range(self):
        for key in (0, -1, LARGEST_KEY + 1, LARGEST_NUMBER, -LARGEST_NUMBER):
            self.assertEqual(first_numbers(work(key, "1820"), drop(key)), [-4, -6], key)
        for key in (1, LARGEST_KEY):
            self.assertEqual(first_numbers(work(key, "1820"), drop(key)), [0, 0], key)

    def test_refusals_of_the_text(self):
        for text, refusal in (("", -1), ("182", -1), ("1821-02-29", -2), ("1821..1820", -3)):
            self.assertEqual(first_numbers(work(7, text), drop(7)), [refusal, -6], text)

    def test_a_key_that_is_there(self):
        self.assertEqual(first_numbers(work(7, "1820"), work(7, "1820"), work(7, "1821")), [0, -5, -5])

    def test_a_refused_work_leaves_the_one_that_is_there(self):
        numbers = first_numbers(work(7, "1820"), work(7, "1850"), not_after(1, 7, JANUARY_1))
        self.assertEqual(numbers, [0, -5, 0])

    def test_a_key_used_again_after_it_was_dropped(self):
        calls = [work(7, "1820"), drop(7), work(7, "1850"), not_after(1, 7, DECEMBER_31)]
        self.assertEqual(first_numbers(*calls), [0, 0, 0, -7])

    def test_the_fortieth_work_and_the_next(self):
        self.assertEqual(first_numbers(*FORTY, work(41, "1820"), drop(41)), [0] * 40 + [-8, -6])

    def test_room_again_after_a_drop(self):
        self.assertEqual(first_numbers(*FORTY, drop(3), work(41, "1820"), work(3, "1820"))[40:], [0, 0, -8])

    def test_the_order_of_the_refusals(self):
        self.assertEqual(last_number(*FORTY, work(0, "")), -4)
        self.assertEqual(last_number(*FORTY, work(0, "3000")), -4)
        self.assertEqual(last_number(*FORTY, work(40, "182")), -1)
        self.assertEqual(last_number(*FORTY, work(40, "3000")), -2)
        self.assertEqual(last_number(*FORTY, work(40, "1821..1820")), -3)
        self.assertEqual(last_number(*FORTY, work(41, "1821..1820")), -3)
        self.assertEqual(last_number(*FORTY, work(40, "1820")), -5)


class Restate(unittest.TestCase):
    def test_the_new_interval_holds_instead_of_the_old(self):
        put = [work(7, "1820"), restate(7, "1821")]
        self.assertEqual(first_numbers(*put), [0, 0])
        self.assertEqual(last_number(*put, not_after(1, 7, DECEMBER_31)), -7)
        self.assertEqual(last_number(*put, not_after(1, 7, DECEMBER_31 + 1)), 0)
        self.assertEqual(last_number(*put, not_before(1, 7, DECEMBER_31 + 365)), 0)
        self.assertEqual(last_number(*put, not_before(1, 7, DECEMBER_31 + 366)), -7)

    def test_no_work_of_that_key(self):
        for key in (8, 0, -7, LARGEST_NUMBER):
            self.assertEqual(last_number(work(7, "1820"), restate(key, "1820")), -6, key)
        self.assertEqual(last_number(work(7, "1820"), drop(7), restate(7, "1820")), -6)
        self.assertEqual(last_number(work(7, "1820"), not_after(9, 7, DECEMBER_31), restate(9, "1820")), -6)

    def test_refusals_of_the_text_leave_the_interval(self):
        for text, refusal in (("", -1), ("182", -1), ("1821-02-29", -2), ("1821..1820", -3)):
            calls = [work(7, "1820"), restate(7, text), not_before(1, 7, DECEMBER_31), not_after(2, 7, DECEMBER_31)]
            self.assertEqual(first_numbers(*calls), [0, refusal, 0, 0], text)

    def test_no_way_of_dating(self):
        bounded = [work(7, "1820"), not_after(1, 7, JANUARY_1 + 9)]
        self.assertEqual(last_number(*bounded, restate(7, "1820-01-11..1820")), -7)
        self.assertEqual(last_number(*bounded, restate(7, "1820-01-10..1820")), 0)
        bounded = [work(7, "1820"), not_before(1, 7, JANUARY_1 + 9)]
        self.assertEqual(last_number(*bounded, restate(7, "1820-01-01..1820-01-09")), -7)
        self.assertEqual(last_number(*bounded, restate(7, "1820-01-01..1820-01-10")), 0)

    def test_no_way_of_dating_because_of_another_work(self):
        linked = [work(7, "1820"), work(8, "1820"), follows(1, 8, 7, 30)]
        self.assertEqual(last_number(*linked, restate(7, "1820-01-30")), -7)
        self.assertEqual(last_number(*linked, restate(7, "1820-01-31")), 0)
        self.assertEqual(last_number(*linked, restate(8, "1820-12-02")), -7)
        self.assertEqual(last_number(*linked, restate(8, "1820-12-01")), 0)
        linked = [work(7, "1820"), work(8, "1820"), within(1, 8, 7, 30)]
        self.assertEqual(last_number(*linked, restate(7, "1821-01-31")), -7)
        self.assertEqual(last_number(*linked, restate(7, "1821-01-30")), 0)

    def test_refused_by_no_way_it_leaves_the_interval(self):
        put = [work(7, "1820"), not_after(1, 7, JANUARY_1 + 9), restate(7, "1850"), withdraw(1)]
        self.assertEqual(first_numbers(*put), [0, 0, -7, 0])
        self.assertEqual(last_number(*put, not_after(1, 7, JANUARY_1)), 0)
        self.assertEqual(last_number(*put, not_after(1, 7, JANUARY_1 - 1)), -7)
        self.assertEqual(last_number(*put, not_before(1, 7, DECEMBER_31)), 0)
        self.assertEqual(last_number(*put, not_before(1, 7, DECEMBER_31 + 1)), -7)

    def test_the_old_interval_does_not_count(self):
        calls = [work(7, "1820"), not_before(1, 7, DECEMBER_31), restate(7, "1820-12-31..1850"), withdraw(1),
                 restate(7, "1700"), not_after(1, 7, 0)]
        self.assertEqual(first_numbers(*calls), [0] * 6)

    def test_forty_works_may_be_restated(self):
        self.assertEqual(last_number(*FORTY, restate(40, "1821")), 0)

    def test_the_order_of_the_refusals(self):
        bounded = [work(7, "1820"), not_after(1, 7, JANUARY_1 + 9)]
        self.assertEqual(last_number(*bounded, restate(8, "")), -6)
        self.assertEqual(last_number(*bounded, restate(8, "3000")), -6)
        self.assertEqual(last_number(*bounded, restate(7, "185")), -1)
        self.assertEqual(last_number(*bounded, restate(7, "1850-13")), -2)
        self.assertEqual(last_number(*bounded, restate(7, "1851..1850")), -3)


class Drop(unittest.TestCase):
    def test_a_dropped_work_is_gone(self):
        self.assertEqual(first_numbers(work(7, "1820"), drop(7), drop(7), not_after(1, 7, 44000)), [0, 0, -6, -6])

    def test_no_work_of_that_key(self):
        for key in (8, 0, -7, LARGEST_NUMBER):
            self.assertEqual(last_number(work(7, "1820"), drop(key)), -6, key)
        self.assertEqual(last_number(work(7, "1820"), not_after(9, 7, 44000), drop(9)), -6)

    def test_evidence_about_the_work(self):
        put = [work(7, "1820"), work(8, "1820"), work(9, "1820")]
        for evidence in (not_before(1, 7, 44000), not_after(1, 7, 44000)):
            calls = [*put, evidence, drop(7), drop(8), withdraw(1), drop(7)]
            self.assertEqual(first_numbers(*calls)[3:], [0, -11, 0, 0, 0], evidence)
        for evidence in (follows(1, 7, 8, 0), within(1, 7, 8, 0)):
            calls = [*put, evidence, drop(7), drop(8), drop(9), withdraw(1), drop(7), drop(8)]
            self.assertEqual(first_numbers(*calls)[3:], [0, -11, -11, 0, 0, 0, 0], evidence)

    def test_a_refused_drop_leaves_the_work(self):
        calls = [work(7, "1820"), not_after(1, 7, 44000), drop(7), work(7, "1820"), not_before(2, 7, 44001)]
        self.assertEqual(first_numbers(*calls), [0, 0, -11, -5, -7])

    def test_a_day_or_a_number_of_days_is_no_work(self):
        put = [work(7, "1820"), work(44000, "1820"), work(30, "1820"), work(8, "1820")]
        calls = [*put, not_after(2, 7, 44000), follows(8, 7, 44000, 30), withdraw(2), drop(30), drop(8), drop(7)]
        self.assertEqual(first_numbers(*calls)[4:], [0, 0, 0, 0, 0, -11])
        self.assertEqual(last_number(*put, not_after(2, 7, 44000), drop(44000)), 0)


if __name__ == "__main__":
    unittest.main()
