import itertools
import unittest

from tests.helper import (LARGEST_KEY, LARGEST_NUMBER, drop, first_numbers, follows, not_after, not_before, restate,
                          withdraw, within, work)

LAST_DAY = 474814
LARGEST_GAP = 1000000
JANUARY_1 = 43828
DECEMBER_31 = 44193
TWO = [work(7, "1820"), work(8, "1820")]
HUNDRED = [not_after(e, 7, DECEMBER_31) for e in range(1, 101)]
ONE_WORK = (not_before, not_after)
TWO_WORKS = (follows, within)


def last_number(*calls):
    return first_numbers(*calls)[-1]


class Bounds(unittest.TestCase):
    def test_not_before(self):
        self.assertEqual(last_number(*TWO, not_before(1, 7, 0)), 0)
        self.assertEqual(last_number(*TWO, not_before(1, 7, DECEMBER_31)), 0)
        self.assertEqual(last_number(*TWO, not_before(1, 7, DECEMBER_31 + 1)), -7)
        self.assertEqual(last_number(*TWO, not_before(1, 7, LAST_DAY)), -7)

    def test_not_after(self):
        self.assertEqual(last_number(*TWO, not_after(1, 7, LAST_DAY)), 0)
        self.assertEqual(last_number(*TWO, not_after(1, 7, JANUARY_1)), 0)
        self.assertEqual(last_number(*TWO, not_after(1, 7, JANUARY_1 - 1)), -7)
        self.assertEqual(last_number(*TWO, not_after(1, 7, 0)), -7)

    def test_both_about_one_work(self):
        self.assertEqual(last_number(*TWO, not_before(1, 7, 44000), not_after(2, 7, 44000)), 0)
        self.assertEqual(last_number(*TWO, not_before(1, 7, 44000), not_after(2, 7, 43999)), -7)
        self.assertEqual(last_number(*TWO, not_after(1, 7, 44000), not_before(2, 7, 44000)), 0)
        self.assertEqual(last_number(*TWO, not_after(1, 7, 44000), not_before(2, 7, 44001)), -7)

    def test_the_narrower_one_counts_whichever_comes_first(self):
        self.assertEqual(last_number(*TWO, not_after(1, 7, 44000), not_after(2, 7, 44100), not_before(3, 7, 44001)), -7)
        self.assertEqual(last_number(*TWO, not_after(1, 7, 44100), not_after(2, 7, 44000), not_before(3, 7, 44001)), -7)
        self.assertEqual(last_number(*TWO, not_before(1, 7, 44000), not_before(2, 7, 43900), not_after(3, 7, 43999)), -7)

    def test_about_another_work(self):
        self.assertEqual(last_number(*TWO, not_before(1, 7, 44000), not_after(2, 8, 43999)), 0)

    def test_range_of_the_day(self):
        whole = work(7, "1700..2999")
        for call in ONE_WORK:
            for day in (0, LAST_DAY):
                self.assertEqual(last_number(whole, call(1, 7, day)), 0)
            for day in (-1, LAST_DAY + 1, LARGEST_NUMBER, -LARGEST_NUMBER):
                self.assertEqual(last_number(whole, call(1, 7, day)), -9)


class Links(unittest.TestCase):
    def test_follows(self):
        self.assertEqual(last_number(*TWO, follows(1, 8, 7, 365)), 0)
        self.assertEqual(last_number(*TWO, follows(1, 8, 7, 366)), -7)
        self.assertEqual(last_number(*TWO, follows(1, 8, 7, LARGEST_GAP)), -7)
        linked = [*TWO, follows(1, 8, 7, 30)]
        self.assertEqual(last_number(*linked, not_after(2, 7, JANUARY_1 + 30)), 0)
        self.assertEqual(last_number(*linked, not_after(2, 7, JANUARY_1 + 29)), -7)
        self.assertEqual(last_number(*linked, not_before(2, 8, DECEMBER_31 - 30)), 0)
        self.assertEqual(last_number(*linked, not_before(2, 8, DECEMBER_31 - 29)), -7)
        self.assertEqual(last_number(*linked, not_after(2, 8, JANUARY_1)), 0)
        self.assertEqual(last_number(*linked, not_before(2, 7, DECEMBER_31)), 0)

    def test_follows_by_no_day_allows_one_day(self):
        self.assertEqual(last_number(*TWO, follows(1, 7, 8, 0), follows(2, 8, 7, 0)), 0)
        self.assertEqual(last_number(*TWO, follows(1, 7, 8, 0), follows(2, 8, 7, 1)), -7)

    def test_within(self):
        self.assertEqual(last_number(*TWO, within(1, 7, 8, 0)), 0)
        self.assertEqual(last_number(*TWO, within(1, 7, 8, LARGEST_GAP)), 0)
        linked = [*TWO, within(1, 7, 8, 30)]
        self.assertEqual(last_number(*linked, not_after(2, 7, 44000), not_before(3, 8, 44030)), 0)
        self.assertEqual(last_number(*linked, not_after(2, 7, 44000), not_before(3, 8, 44031)), -7)
        # v may be before u, however far.
        self.assertEqual(last_number(*linked, not_before(2, 7, DECEMBER_31), not_after(3, 8, JANUARY_1)), 0)
        apart = [work(7, "1820"), work(8, "1821")]
        self.assertEqual(last_number(*apart, within(1, 7, 8, 1)), 0)
        self.assertEqual(last_number(*apart, within(1, 7, 8, 0)), -7)
        self.assertEqual(last_number(*apart, within(1, 8, 7, 0)), 0)

    def test_follows_and_within(self):
        self.assertEqual(last_number(*TWO, follows(1, 7, 8, 30), within(2, 7, 8, 30)), 0)
        self.assertEqual(last_number(*TWO, follows(1, 7, 8, 30), within(2, 7, 8, 29)), -7)
        self.assertEqual(last_number(*TWO, within(1, 7, 8, 29), follows(2, 7, 8, 30)), -7)
        self.assertEqual(last_number(*TWO, follows(1, 7, 8, 30), within(2, 8, 7, 0)), 0)

    def test_range_of_the_number_of_days(self):
        whole = [work(7, "1700..2999"), work(8, "1700..2999")]
        for call in TWO_WORKS:
            self.assertEqual(last_number(*whole, call(1, 7, 8, 0)), 0)
            for gap in (-1, LARGEST_GAP + 1, LARGEST_NUMBER, -LARGEST_NUMBER):
                self.assertEqual(last_number(*whole, call(1, 7, 8, gap)), -9)
        self.assertEqual(last_number(*whole, follows(1, 7, 8, LAST_DAY)), 0)
        self.assertEqual(last_number(*whole, follows(1, 7, 8, LAST_DAY + 1)), -7)
        self.assertEqual(last_number(*whole, follows(1, 7, 8, LARGEST_GAP)), -7)
        self.assertEqual(last_number(*whole, within(1, 7, 8, LARGEST_GAP)), 0)


class Refusals(unittest.TestCase):
    def test_keys_out_of_range(self):
        for key in (0, -1, LARGEST_KEY + 1, LARGEST_NUMBER, -LARGEST_NUMBER):
            for call in ONE_WORK:
                self.assertEqual(first_numbers(*TWO, call(key, 7, 44000), withdraw(key))[2:], [-4, -6])
            for call in TWO_WORKS:
                self.assertEqual(first_numbers(*TWO, call(key, 7, 8, 0), withdraw(key))[2:], [-4, -6])
        for key in (1, LARGEST_KEY):
            for call in ONE_WORK:
                self.assertEqual(first_numbers(*TWO, call(key, 7, 44000), withdraw(key))[2:], [0, 0])
            for call in TWO_WORKS:
                self.assertEqual(first_numbers(*TWO, call(key, 7, 8, 0), withdraw(key))[2:], [0, 0])

    def test_a_key_that_is_there(self):
        every = [not_before(1, 7, 44000), not_after(1, 7, 44000), follows(1, 7, 8, 0), within(1, 7, 8, 0)]
        for first, second in itertools.product(every, every):
            self.assertEqual(first_numbers(*TWO, first, second)[2:], [0, -5])

    def test_no_such_work(self):
        for key in (1, 9, 0, -7, LARGEST_NUMBER):
            for call in ONE_WORK:
                self.assertEqual(last_number(*TWO, call(1, key, 44000)), -6)
            for call in TWO_WORKS:
                self.assertEqual(last_number(*TWO, call(1, key, 8, 0)), -6)
                self.assertEqual(last_number(*TWO, call(1, 7, key, 0)), -6)
                self.assertEqual(last_number(*TWO, call(1, key, key, 0)), -6)

    def test_evidence_is_no_work(self):
        put = [*TWO, not_after(9, 7, 44000)]
        self.assertEqual(last_number(*put, not_after(1, 9, 44000)), -6)
        self.assertEqual(last_number(*put, follows(1, 7, 9, 0)), -6)

    def test_the_same_work_twice(self):
        for call in TWO_WORKS:
            self.assertEqual(last_number(*TWO, call(1, 7, 7, 0)), -10)

    def test_the_hundredth_and_the_next(self):
        self.assertEqual(first_numbers(*TWO, *HUNDRED), [0] * 102)
        for call in ONE_WORK:
            self.assertEqual(last_number(*TWO, *HUNDRED, call(101, 7, 44000)), -8)
        for call in TWO_WORKS:
            self.assertEqual(last_number(*TWO, *HUNDRED, call(101, 7, 8, 0)), -8)
        self.assertEqual(last_number(*TWO, *HUNDRED, not_after(101, 7, 44000), withdraw(101)), -6)

    def test_room_again_after_a_withdrawal(self):
        calls = [withdraw(50), follows(101, 7, 8, 0), not_after(50, 7, 44000)]
        self.assertEqual(first_numbers(*TWO, *HUNDRED, *calls)[102:], [0, 0, -8])

    def test_the_order_of_the_refusals_of_bounds(self):
        full = [*TWO, *HUNDRED]
        for call in ONE_WORK:
            self.assertEqual(last_number(*full, call(0, 9, -1)), -4)
            self.assertEqual(last_number(*full, call(100, 9, -1)), -5)
            self.assertEqual(last_number(*full, call(101, 9, -1)), -6)
            self.assertEqual(last_number(*full, call(101, 7, -1)), -9)
            self.assertEqual(last_number(*full, call(101, 7, LAST_DAY + 1)), -9)
        self.assertEqual(last_number(*full, not_before(101, 7, LAST_DAY)), -8)
        self.assertEqual(last_number(*full, not_after(101, 7, 0)), -8)

    def test_the_order_of_the_refusals_of_links(self):
        full = [*TWO, work(9, "1900"), *HUNDRED]
        for call in TWO_WORKS:
            self.assertEqual(last_number(*full, call(0, 10, 10, -1)), -4)
            self.assertEqual(last_number(*full, call(100, 10, 10, -1)), -5)
            self.assertEqual(last_number(*full, call(101, 10, 10, -1)), -6)
            self.assertEqual(last_number(*full, call(101, 7, 7, -1)), -10)
            self.assertEqual(last_number(*full, call(101, 7, 8, -1)), -9)
            self.assertEqual(last_number(*full, call(101, 7, 8, LARGEST_GAP + 1)), -9)
        self.assertEqual(last_number(*full, follows(101, 9, 7, 0)), -8)
        self.assertEqual(last_number(*full, within(101, 7, 9, 0)), -8)

    def test_a_refused_call_changes_nothing(self):
        refused = [not_before(0, 7, 44100), not_before(1, 7, 44100), not_before(2, 9, 44100), not_before(2, 7, -1),
                   follows(0, 8, 7, 100), follows(1, 8, 7, 100), follows(2, 9, 7, 100), follows(2, 8, 9, 100),
                   follows(2, 7, 7, 1), follows(2, 8, 7, -1), follows(2, 8, 7, 366), within(2, 8, 7, -1),
                   not_before(2, 7, DECEMBER_31 + 1), not_after(2, 7, JANUARY_1 - 1)]
        numbers = first_numbers(*TWO, not_after(1, 8, DECEMBER_31), *refused, withdraw(2), withdraw(0),
                                not_after(2, 7, JANUARY_1), not_before(3, 8, DECEMBER_31), withdraw(1))
        self.assertEqual(numbers[3:], [-4, -5, -6, -9, -4, -5, -6, -6, -10, -9, -7, -9, -7, -7, -6, -6, 0, 0, 0])


class Withdraw(unittest.TestCase):
    def test_none_of_that_key(self):
        for key in (1, 7, 0, -1, LARGEST_NUMBER):
            self.assertEqual(last_number(*TWO, withdraw(key)), -6, key)

    def test_what_is_withdrawn_bounds_no_more(self):
        calls = [not_after(1, 7, 44000), not_before(2, 7, 44001), withdraw(1), not_before(2, 7, 44001), withdraw(1)]
        self.assertEqual(first_numbers(*TWO, *calls)[2:], [0, -7, 0, 0, -6])
        calls = [follows(1, 7, 8, 30), follows(2, 8, 7, 30), withdraw(1), follows(2, 8, 7, 30)]
        self.assertEqual(first_numbers(*TWO, *calls)[2:], [0, -7, 0, 0])

    def test_other_evidence_stays(self):
        calls = [not_after(1, 7, 44000), not_after(2, 7, 44010), withdraw(1), not_before(3, 7, 44011)]
        self.assertEqual(first_numbers(*TWO, *calls)[2:], [0, 0, 0, -7])

    def test_a_key_used_again(self):
        calls = [not_after(1, 7, 44000), withdraw(1), follows(1, 8, 7, 30), withdraw(1), withdraw(1)]
        self.assertEqual(first_numbers(*TWO, *calls)[2:], [0, 0, 0, 0, -6])

    def test_a_work_and_evidence_of_the_same_key(self):
        calls = [not_after(7, 7, 44000), follows(8, 7, 8, 1), work(7, "1820"), not_after(7, 8, 44000), withdraw(8),
                 drop(8), drop(7), withdraw(8), withdraw(7), drop(7)]
        self.assertEqual(first_numbers(*TWO, *calls)[2:], [0, 0, -5, -5, 0, 0, -11, -6, 0, 0])


class NoWay(unittest.TestCase):
    def test_the_example_of_the_document(self):
        put = [work(7, "1820"), work(8, "1820-06..1821"), follows(5, 8, 7, 30)]
        self.assertEqual(first_numbers(*put, not_after(6, 7, 44000)), [0, 0, 0, -7])
        self.assertEqual(last_number(*put, not_after(6, 7, 44010)), 0)
        self.assertEqual(last_number(*put, not_after(6, 7, 44009)), -7)
        self.assertEqual(last_number(*put, not_before(6, 8, 44163)), 0)
        self.assertEqual(last_number(*put, not_before(6, 8, 44164)), -7)

    def test_several_together(self):
        works = [work(key, "1700..2999") for key in (1, 2, 3, 4)]
        chain = [follows(1, 1, 2, 10), follows(2, 2, 3, 10), within(3, 4, 3, 5), not_before(4, 1, 1000)]
        self.assertEqual(first_numbers(*works, *chain), [0] * 8)
        self.assertEqual(last_number(*works, *chain, not_after(5, 4, 1015)), 0)
        for calls in itertools.permutations([*chain, not_after(5, 4, 1014)]):
            self.assertEqual(first_numbers(*works, *calls), [0] * 8 + [-7])

    def test_a_ring_that_sinks_by_one_day(self):
        keys = range(1, 41)
        works = [work(key, "1700..2999") for key in keys]
        for order in (keys, keys[::-1]):
            links = [follows(e, order[e - 1], order[e], 5) for e in range(1, 40)]
            put = [*works, *links]
            self.assertEqual(first_numbers(*put), [0] * 79)
            self.assertEqual(last_number(*put, within(40, order[0], order[39], 195)), 0)
            self.assertEqual(last_number(*put, within(40, order[0], order[39], 194)), -7)
            self.assertEqual(last_number(*put, follows(40, order[39], order[0], 0)), -7)

    def test_a_chain_over_all_works(self):
        works = [work(key, "1700..2999") for key in range(1, 41)]
        for order in (range(1, 41), range(40, 0, -1)):
            links = [follows(e, order[e - 1], order[e], 100) for e in range(1, 40)]
            put = [*works, *links, not_after(50, order[39], 5000)]
            self.assertEqual(last_number(*put, not_before(51, order[0], 1100)), 0)
            self.assertEqual(last_number(*put, not_before(51, order[0], 1101)), -7)
            self.assertEqual(last_number(*put, restate(order[0], "1703-01-06")), 0)
            self.assertEqual(last_number(*put, restate(order[0], "1703-01-07")), -7)


if __name__ == "__main__":
    unittest.main()
