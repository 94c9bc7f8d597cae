import unittest

from tests.helper import (LARGEST_NUMBER, apart, ask, drop, earliest, first_numbers, follows, last_answer, latest,
                          not_after, not_before, order, restate, within, withdraw, work, work_from)

LAST_DAY = 474814
EXAMPLE = [work(7, "1820"), work(8, "1820-06..1821"), follows(5, 8, 7, 30)]
# Three works of a hundred days; nothing links them yet.
THREE = [work_from(1, 100, 199), work_from(2, 100, 199), work_from(3, 100, 199)]


def days(put, key):
    """The earliest and the latest day of a work."""
    return first_numbers(*put, earliest(key), latest(key))[-2:]


class LatestAndEarliest(unittest.TestCase):
    def test_the_example_of_the_document(self):
        self.assertEqual(days(EXAMPLE, 7), [44010, 44193])
        self.assertEqual(days(EXAMPLE, 8), [43980, 44163])

    def test_the_stated_interval_alone(self):
        self.assertEqual(days([work(7, "1758")], 7), [21184, 21548])
        self.assertEqual(days([work(7, "J:1800-02-29")], 7), [36594, 36594])
        self.assertEqual(days([work(7, "1700..2999")], 7), [0, LAST_DAY])

    def test_a_first_and_a_last_day_of_all(self):
        self.assertEqual(days([work(7, "1700-01-01")], 7), [0, 0])
        self.assertEqual(days([work(7, "2999-12-31")], 7), [LAST_DAY, LAST_DAY])

    def test_evidence_about_the_work_itself(self):
        self.assertEqual(days([*THREE, not_before(1, 1, 120)], 1), [120, 199])
        self.assertEqual(days([*THREE, not_before(1, 1, 120), not_before(2, 1, 110)], 1), [120, 199])
        self.assertEqual(days([*THREE, not_before(1, 1, 99)], 1), [100, 199])
        self.assertEqual(days([*THREE, not_after(1, 1, 180)], 1), [100, 180])
        self.assertEqual(days([*THREE, not_after(1, 1, 180), not_after(2, 1, 190)], 1), [100, 180])
        self.assertEqual(days([*THREE, not_after(1, 1, 200)], 1), [100, 199])
        self.assertEqual(days([*THREE, not_before(1, 2, 120), not_after(2, 3, 180)], 1), [100, 199])

    def test_over_follows(self):
        put = [*THREE, follows(9, 1, 2, 10)]
        self.assertEqual(days(put, 1), [100, 189])
        self.assertEqual(days(put, 2), [110, 199])
        self.assertEqual(days(put, 3), [100, 199])

    def test_over_within(self):
        put = [*THREE, within(9, 1, 2, 10), not_after(1, 1, 150), not_before(2, 2, 130)]
        self.assertEqual(days(put, 1), [120, 150])
        self.assertEqual(days(put, 2), [130, 160])

    def test_over_several_pieces_and_other_works(self):
        put = [*THREE, follows(1, 1, 2, 10), within(2, 3, 2, 5), not_after(3, 3, 150), not_before(4, 1, 120)]
        self.assertEqual(days(put, 1), [120, 145])
        self.assertEqual(days(put, 2), [130, 155])
        self.assertEqual(days(put, 3), [125, 150])

    def test_over_all_works(self):
        keys = list(range(1, 41))
        works = [work_from(key, 0, 5000) for key in keys]
        for line in (keys, keys[::-1]):
            put = [*works, *[follows(e, line[e - 1], line[e], 100) for e in range(1, 40)]]
            for place in (0, 1, 20, 38, 39):
                self.assertEqual(days(put, line[place]), [100 * place, 5000 - 100 * (39 - place)])

    def test_a_ring_that_fixes_a_distance(self):
        put = [*THREE, follows(1, 1, 2, 20), within(2, 1, 2, 20), follows(3, 2, 3, 0), follows(4, 3, 2, 0),
               not_after(5, 3, 170)]
        self.assertEqual(days(put, 1), [100, 150])
        self.assertEqual(days(put, 2), [120, 170])
        self.assertEqual(days(put, 3), [120, 170])

    def test_the_narrowest_of_several_counts(self):
        put = [*THREE, follows(1, 1, 2, 10), follows(2, 1, 3, 30), follows(3, 1, 2, 20)]
        self.assertEqual(days(put, 1), [100, 169])
        self.assertEqual(days(put, 2), [120, 199])
        self.assertEqual(days(put, 3), [130, 199])

    def test_after_changes(self):
        put = [*THREE, follows(1, 1, 2, 10), not_after(2, 2, 150)]
        self.assertEqual(days(put, 1), [100, 140])
        self.assertEqual(days([*put, withdraw(2)], 1), [100, 189])
        self.assertEqual(days([*put, withdraw(1)], 1), [100, 199])
        self.assertEqual(days([*put, restate(2, "1700-05-01..1700-05-10")], 1), [100, 119])
        self.assertEqual(days([*put, restate(2, "1758")], 1), [100, 140])
        self.assertEqual(days([*put, not_after(3, 1, 90)], 1), [100, 140])

    def test_no_work_of_that_key(self):
        for key in (9, 5, 0, -7, LARGEST_NUMBER, -LARGEST_NUMBER):
            self.assertEqual(ask(*EXAMPLE, latest(key), earliest(key))[3:], [[-6], [-6]], key)
        self.assertEqual(ask(latest(1), earliest(1)), [[-6], [-6]])
        self.assertEqual(ask(work(7, "1820"), drop(7), latest(7), earliest(7))[2:], [[-6], [-6]])


class Apart(unittest.TestCase):
    def test_the_example_of_the_document(self):
        self.assertEqual(last_answer(*EXAMPLE, apart(8, 7)), [0, 30, 44193 - 43980])
        self.assertEqual(last_answer(*EXAMPLE, apart(7, 8)), [0, 43980 - 44193, -30])

    def test_the_stated_intervals_alone(self):
        put = [work_from(1, 100, 110), work_from(2, 105, 130)]
        self.assertEqual(last_answer(*put, apart(1, 2)), [0, -5, 30])
        self.assertEqual(last_answer(*put, apart(2, 1)), [0, -30, 5])
        whole = [work(1, "1700..2999"), work(2, "1700..2999")]
        self.assertEqual(last_answer(*whole, apart(1, 2)), [0, -LAST_DAY, LAST_DAY])

    def test_evidence_about_one_work_counts(self):
        self.assertEqual(last_answer(*THREE, not_before(1, 1, 150), apart(1, 2)), [0, -99, 49])
        self.assertEqual(last_answer(*THREE, not_after(1, 1, 150), apart(1, 2)), [0, -50, 99])
        self.assertEqual(last_answer(*THREE, not_before(1, 2, 150), apart(1, 2)), [0, -49, 99])
        self.assertEqual(last_answer(*THREE, not_after(1, 2, 150), apart(1, 2)), [0, -99, 50])

    def test_over_follows_and_within(self):
        put = [*THREE, follows(1, 1, 2, 10), within(2, 1, 2, 20)]
        self.assertEqual(last_answer(*put, apart(1, 2)), [0, 10, 20])
        self.assertEqual(last_answer(*put, apart(2, 1)), [0, -20, -10])
        self.assertEqual(last_answer(*put, apart(1, 3)), [0, -89, 99])

    def test_a_bound_that_the_outer_days_alone_would_not_tell(self):
        # Both works may lie anywhere in the hundred days, but close together alone.
        put = [*THREE, within(1, 1, 2, 3), within(2, 2, 1, 4)]
        self.assertEqual(days(put, 1), [100, 199])
        self.assertEqual(days(put, 2), [100, 199])
        self.assertEqual(last_answer(*put, apart(1, 2)), [0, -4, 3])

    def test_over_several_pieces_and_another_work(self):
        put = [*THREE, follows(1, 1, 3, 10), follows(2, 3, 2, 15), within(3, 1, 3, 30), within(4, 3, 2, 40)]
        self.assertEqual(last_answer(*put, apart(1, 2)), [0, 25, 70])
        self.assertEqual(last_answer(*put, apart(2, 1)), [0, -70, -25])
        self.assertEqual(last_answer(*put, not_after(5, 2, 160), apart(1, 2)), [0, 25, 60])

    def test_over_all_works(self):
        works = [work(key, "1700..2999") for key in range(1, 41)]
        links = [follows(e, e, e + 1, e) for e in range(1, 40)]
        slack = [within(100 + e, e, e + 1, 2 * e) for e in range(1, 40)]
        self.assertEqual(last_answer(*works, *links, *slack, apart(1, 40)), [0, 780, 1560])
        self.assertEqual(last_answer(*works, *links, *slack, apart(40, 1)), [0, -1560, -780])

    def test_the_same_work(self):
        self.assertEqual(last_answer(*EXAMPLE, apart(7, 7)), [0, 0, 0])
        self.assertEqual(last_answer(work(7, "1820"), apart(7, 7)), [0, 0, 0])

    def test_no_such_work(self):
        for key in (9, 5, 0, -7, LARGEST_NUMBER):
            for u, v in ((7, key), (key, 7), (key, key)):
                self.assertEqual(ask(*EXAMPLE, apart(u, v), order(u, v))[3:], [[-6], [-6]], (u, v))
        self.assertEqual(ask(apart(1, 1), order(1, 1)), [[-6], [-6]])


class Order(unittest.TestCase):
    def check(self, put, expected, turned):
        self.assertEqual(ask(*put, order(1, 2), order(2, 1))[len(put):], [[expected], [turned]], put)

    def test_the_example_of_the_document(self):
        self.assertEqual(ask(*EXAMPLE, order(8, 7), order(7, 8))[3:], [[1], [5]])

    def test_surely_later_and_surely_earlier(self):
        self.check([work_from(1, 100, 199), work_from(2, 200, 200)], 1, 5)
        self.check([*THREE, follows(1, 1, 2, 1)], 1, 5)
        self.check([*THREE, follows(1, 1, 2, 99)], 1, 5)

    def test_not_earlier_and_not_later(self):
        self.check([work_from(1, 100, 199), work_from(2, 199, 200)], 2, 4)
        self.check([*THREE, follows(1, 1, 2, 0)], 2, 4)
        self.check([*THREE, within(1, 2, 1, 0)], 2, 4)
        self.check([*THREE, follows(1, 1, 2, 0), within(2, 1, 2, 1)], 2, 4)

    def test_surely_on_one_day(self):
        self.check([work_from(1, 150, 150), work_from(2, 150, 150)], 3, 3)
        self.check([*THREE, follows(1, 1, 2, 0), within(2, 1, 2, 0)], 3, 3)
        self.check([*THREE, follows(1, 1, 3, 0), follows(2, 3, 2, 0), follows(3, 2, 1, 0)], 3, 3)

    def test_the_same_work(self):
        self.assertEqual(ask(*THREE, order(1, 1), order(3, 3))[3:], [[3], [3]])

    def test_open(self):
        self.check(THREE, 6, 6)
        self.check([work_from(1, 100, 101), work_from(2, 100, 101)], 6, 6)
        self.check([*THREE, within(1, 1, 2, 1), within(2, 2, 1, 1)], 6, 6)


if __name__ == "__main__":
    unittest.main()
