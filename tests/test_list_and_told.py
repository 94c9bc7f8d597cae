import unittest

from tests.helper import (LARGEST_KEY, ask, drop, follows, last_answer, list_of, not_after, not_before, restate, told,
                          withdraw, within, work, work_from)

EXAMPLE = [work(7, "1820"), work(8, "1820-06..1821"), follows(5, 8, 7, 30)]


class ListOf(unittest.TestCase):
    def test_the_example_of_the_document(self):
        self.assertEqual(last_answer(*EXAMPLE, list_of()), [0, 8, 44163, 7, 44193])

    def test_no_works(self):
        self.assertEqual(last_answer(list_of()), [0])
        self.assertEqual(last_answer(work(7, "1820"), drop(7), list_of()), [0])

    def test_by_rising_days_whatever_the_keys(self):
        put = [work_from(1, 0, 30), work_from(2, 0, 20), work_from(3, 0, 10), work_from(4, 0, 40)]
        self.assertEqual(last_answer(*put, list_of()), [0, 3, 10, 2, 20, 1, 30, 4, 40])

    def test_one_day_by_rising_keys(self):
        put = [work_from(key, 0, 20) for key in (10, 9, LARGEST_KEY, 100, 1)]
        self.assertEqual(last_answer(*put, list_of()), [0, 1, 20, 9, 20, 10, 20, 100, 20, LARGEST_KEY, 20])
        put = [*put, work_from(50, 0, 10), not_after(1, 100, 10), follows(2, 10, 50, 0)]
        self.assertEqual(last_answer(*put, list_of()), [0, 10, 10, 50, 10, 100, 10, 1, 20, 9, 20, LARGEST_KEY, 20])

    def test_the_reckoned_day_not_the_stated_one(self):
        put = [work_from(1, 0, 30), work_from(2, 0, 20), follows(1, 1, 2, 5)]
        self.assertEqual(last_answer(*put, list_of()), [0, 1, 15, 2, 20])

    def test_forty_works(self):
        put = [work_from(key, 0, 100 - key // 2) for key in range(1, 41)]
        rows = sorted((100 - key // 2, key) for key in range(1, 41))
        self.assertEqual(last_answer(*put, list_of()), [0] + [number for day, key in rows for number in (key, day)])


class Told(unittest.TestCase):
    def test_the_example_of_the_document(self):
        self.assertEqual(last_answer(*EXAMPLE, told()), [0, 2, 7, 43828, 44193, 8, 43980, 44558, 1, 5, 2, 8, 7, 30])

    def test_no_works_and_no_evidence(self):
        self.assertEqual(last_answer(told()), [0, 0, 0])
        self.assertEqual(last_answer(work_from(7, 3, 4), told()), [0, 1, 7, 3, 4, 0])

    def test_each_kind(self):
        put = [work_from(7, 0, 90), work_from(8, 0, 90), not_before(1, 7, 11), not_after(2, 8, 70),
               follows(3, 7, 8, 5), within(4, 8, 7, 6)]
        self.assertEqual(last_answer(*put, told()), [0, 2, 7, 0, 90, 8, 0, 90, 4, 1, 0, 7, 0, 11, 2, 1, 8, 0, 70,
                                                     3, 2, 7, 8, 5, 4, 3, 8, 7, 6])

    def test_by_rising_keys_whatever_came_first(self):
        works = [work_from(key, 0, 90) for key in (10, 9, 100, 1)]
        pieces = [not_after(10, 1, 80), follows(9, 1, 9, 3), not_before(100, 9, 5), within(2, 100, 10, 7)]
        expected = [0, 4, 1, 0, 90, 9, 0, 90, 10, 0, 90, 100, 0, 90,
                    4, 2, 3, 100, 10, 7, 9, 2, 1, 9, 3, 10, 1, 1, 0, 80, 100, 0, 9, 0, 5]
        self.assertEqual(last_answer(*works, *pieces, told()), expected)
        self.assertEqual(last_answer(*works[::-1], *pieces[::-1], told()), expected)

    def test_the_stated_interval_not_the_reckoned_one(self):
        put = [work_from(7, 0, 90), not_before(1, 7, 10), not_after(2, 7, 20), told()]
        self.assertEqual(last_answer(*put), [0, 1, 7, 0, 90, 2, 1, 0, 7, 0, 10, 2, 1, 7, 0, 20])

    def test_what_restate_drop_and_withdraw_leave(self):
        put = [work_from(7, 0, 90), work_from(8, 0, 90), work_from(9, 0, 90), not_after(1, 7, 80),
               not_after(2, 8, 80)]
        self.assertEqual(last_answer(*put, restate(8, "1700-01"), told()),
                         [0, 3, 7, 0, 90, 8, 0, 30, 9, 0, 90, 2, 1, 1, 7, 0, 80, 2, 1, 8, 0, 80])
        self.assertEqual(last_answer(*put, withdraw(1), told()),
                         [0, 3, 7, 0, 90, 8, 0, 90, 9, 0, 90, 1, 2, 1, 8, 0, 80])
        self.assertEqual(last_answer(*put, withdraw(1), drop(7), told()), [0, 2, 8, 0, 90, 9, 0, 90, 1, 2, 1, 8, 0, 80])
        self.assertEqual(last_answer(*put, drop(9), withdraw(2), told()), [0, 2, 7, 0, 90, 8, 0, 90, 1, 1, 1, 7, 0, 80])
        gone = [withdraw(1), withdraw(2), drop(7), drop(8), drop(9)]
        self.assertEqual(last_answer(*put, *gone, told()), [0, 0, 0])

    def test_keys_used_again(self):
        put = [work_from(7, 0, 90), work_from(8, 0, 90), not_after(1, 7, 80), withdraw(1), drop(7), work_from(7, 5, 6),
               follows(1, 7, 8, 2), told()]
        self.assertEqual(last_answer(*put), [0, 2, 7, 5, 6, 8, 0, 90, 1, 1, 2, 7, 8, 2])

    def test_as_many_as_there_may_be(self):
        works = [work_from(key, key, 500) for key in range(40, 0, -1)]
        pieces = [not_after(e, 1 + e % 40, 400 + e) for e in range(100, 0, -1)]
        expected = [0, 40]
        for key in range(1, 41):
            expected += [key, key, 500]
        expected.append(100)
        for e in range(1, 101):
            expected += [e, 1, 1 + e % 40, 0, 400 + e]
        self.assertEqual(ask(*works, *pieces, told(), work(41, "1820"), not_after(101, 1, 3), told())[140:],
                         [expected, [-8], [-8], expected])


if __name__ == "__main__":
    unittest.main()
