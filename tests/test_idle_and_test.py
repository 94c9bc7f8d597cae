import unittest

from tests.helper import (LARGEST_NUMBER, ask, evidence, first_numbers, follows, idle, latest, list_of, not_after,
                          not_before, told, try_out, within, withdraw, work_from)

LAST_DAY = 474814
LARGEST_GAP = 1000000
THREE = [work_from(1, 100, 199), work_from(2, 100, 199), work_from(3, 100, 199)]


def last_number(*calls):
    return first_numbers(*calls)[-1]


class Idle(unittest.TestCase):
    def check(self, pieces, expected):
        """Whether each of these pieces of evidence is idle, by their keys."""
        asked = [idle(e) for e in sorted(expected)]
        given = first_numbers(*THREE, *pieces, *asked)[-len(asked):]
        self.assertEqual(given, [expected[e] for e in sorted(expected)], pieces)

    def test_what_the_stated_intervals_meet(self):
        self.check([not_before(1, 1, 100)], {1: 1})
        self.check([not_before(1, 1, 0)], {1: 1})
        self.check([not_after(1, 1, 199)], {1: 1})
        self.check([not_after(1, 1, LAST_DAY)], {1: 1})
        self.check([within(1, 1, 2, 99)], {1: 1})
        self.check([within(1, 1, 2, LARGEST_GAP)], {1: 1})
        self.assertEqual(last_number(work_from(4, 0, 50), work_from(5, 60, 90), follows(1, 4, 5, 10), idle(1)), 1)
        self.assertEqual(last_number(work_from(4, 0, 50), work_from(5, 60, 90), follows(1, 4, 5, 11), idle(1)), 0)

    def test_what_says_something_new(self):
        self.check([not_before(1, 1, 101)], {1: 0})
        self.check([not_after(1, 1, 198)], {1: 0})
        self.check([within(1, 1, 2, 98)], {1: 0})
        self.check([follows(1, 1, 2, 0)], {1: 0})
        self.check([follows(1, 1, 2, 99)], {1: 0})

    def test_what_other_evidence_meets(self):
        self.check([not_before(1, 1, 120), not_before(2, 1, 119)], {1: 0, 2: 1})
        self.check([not_after(1, 1, 120), not_after(2, 1, 121)], {1: 0, 2: 1})
        self.check([follows(1, 1, 2, 20), follows(2, 1, 2, 19)], {1: 0, 2: 1})
        self.check([within(1, 1, 2, 20), within(2, 1, 2, 21)], {1: 0, 2: 1})
        self.check([follows(1, 1, 2, 20), not_before(2, 2, 120), not_after(3, 1, 179)], {1: 0, 2: 1, 3: 1})
        self.check([follows(1, 1, 2, 0), within(2, 2, 1, 1)], {1: 0, 2: 1})
        self.check([not_before(1, 2, 150), not_after(2, 1, 140), follows(3, 1, 2, 10)], {1: 0, 2: 0, 3: 1})

    def test_what_several_pieces_meet_together(self):
        line = [follows(1, 1, 2, 10), follows(2, 2, 3, 15)]
        self.check([*line, follows(3, 1, 3, 25)], {1: 0, 2: 0, 3: 1})
        self.check([*line, follows(3, 1, 3, 26)], {1: 0, 2: 0, 3: 0})
        line = [within(1, 1, 2, 10), within(2, 2, 3, 15)]
        self.check([*line, within(3, 1, 3, 25)], {1: 0, 2: 0, 3: 1})
        self.check([*line, within(3, 1, 3, 24)], {1: 0, 2: 0, 3: 0})

    def test_two_that_say_the_same(self):
        for kind, amount in ((0, 150), (1, 150), (2, 10), (3, 10)):
            pieces = [evidence(1, kind, 1, 2, amount), evidence(2, kind, 1, 2, amount)]
            self.check(pieces, {1: 1, 2: 1})
            self.check([*pieces, withdraw(1)], {2: 0})
        # Nothing but "2 isn't before 1", said in two kinds.
        self.check([follows(1, 1, 2, 0), within(2, 2, 1, 0)], {1: 1, 2: 1})

    def test_nothing_is_changed_by_asking(self):
        pieces = [not_after(9, 1, 150), not_after(1, 1, 150), follows(2, 2, 1, 5), not_before(3, 3, 100)]
        given = ask(*THREE, *pieces, told(), idle(9), idle(1), idle(2), idle(3), told(), idle(9), idle(1), latest(2))
        given = given[7:]
        self.assertEqual(given[1:5], [[1], [1], [0], [1]])
        self.assertEqual(given[0], given[5])
        self.assertEqual(given[6:], [[1], [1], [145]])

    def test_none_of_that_key(self):
        for key in (2, 0, -1, LARGEST_NUMBER):
            self.assertEqual(last_number(*THREE, not_after(9, 1, 150), idle(key)), -6, key)
        self.assertEqual(last_number(*THREE, not_after(9, 1, 150), withdraw(9), idle(9)), -6)
        self.assertEqual(last_number(idle(1)), -6)


class Test(unittest.TestCase):
    def check(self, put, claim, expected):
        self.assertEqual(last_number(*THREE, *put, try_out(*claim)), expected, (put, claim))

    def test_not_before(self):
        for day, expected in ((0, 1), (100, 1), (101, 2), (199, 2), (200, 0), (LAST_DAY, 0)):
            self.check([], (0, 1, 0, day), expected)

    def test_not_after(self):
        for day, expected in ((0, 0), (99, 0), (100, 2), (198, 2), (199, 1), (LAST_DAY, 1)):
            self.check([], (1, 1, 0, day), expected)

    def test_follows(self):
        put = [follows(1, 1, 2, 10), within(2, 1, 2, 20)]
        for gap, expected in ((0, 1), (10, 1), (11, 2), (20, 2), (21, 0), (LARGEST_GAP, 0)):
            self.check(put, (2, 1, 2, gap), expected)
        self.check(put, (2, 2, 1, 0), 0)
        self.check([], (2, 1, 2, 0), 2)
        self.check([], (2, 1, 2, 99), 2)
        self.check([], (2, 1, 2, 100), 0)

    def test_within(self):
        put = [follows(1, 1, 2, 10), within(2, 1, 2, 20)]
        for gap, expected in ((0, 0), (9, 0), (10, 2), (19, 2), (20, 1), (LARGEST_GAP, 1)):
            self.check(put, (3, 1, 2, gap), expected)
        self.check(put, (3, 2, 1, 0), 1)
        self.check([], (3, 1, 2, 0), 2)
        self.check([], (3, 1, 2, 98), 2)
        self.check([], (3, 1, 2, 99), 1)

    def test_over_several_pieces_and_another_work(self):
        put = [follows(1, 1, 3, 10), follows(2, 3, 2, 15), not_after(3, 2, 150)]
        self.check(put, (0, 2, 0, 125), 1)
        self.check(put, (0, 2, 0, 126), 2)
        self.check(put, (1, 1, 0, 125), 1)
        self.check(put, (1, 1, 0, 124), 2)
        self.check(put, (2, 1, 2, 25), 1)
        self.check(put, (2, 1, 2, 50), 2)
        self.check(put, (2, 1, 2, 51), 0)
        self.check(put, (3, 2, 3, 0), 1)
        self.check(put, (3, 1, 2, 24), 0)

    def test_v_is_not_looked_at_for_one_work(self):
        for v in (1, 2, 9, 0, -1, LARGEST_NUMBER, -LARGEST_NUMBER):
            self.check([], (0, 1, v, 100), 1)
            self.check([], (0, 1, v, 150), 2)
            self.check([], (0, 1, v, 200), 0)
            self.check([], (1, 1, v, 199), 1)
            self.check([], (1, 1, v, 150), 2)
            self.check([], (1, 1, v, 99), 0)
            self.check([], (1, 9, v, 99), -6)
            self.check([], (0, 1, v, -1), -9)

    def test_kinds(self):
        for kind in (-1, 4, LARGEST_NUMBER, -LARGEST_NUMBER):
            self.check([], (kind, 1, 2, 0), -13)
            self.check([], (kind, 9, 9, -1), -13)

    def test_no_such_work(self):
        for key in (9, 0, -1, LARGEST_NUMBER):
            put = [not_after(9, 1, 150)]
            for kind in (0, 1):
                self.check(put, (kind, key, 1, 0), -6)
                self.check(put, (kind, key, 1, -1), -6)
            for kind in (2, 3):
                for u, v in ((key, 1), (1, key), (key, key)):
                    self.check(put, (kind, u, v, 0), -6)
                    self.check(put, (kind, u, v, -1), -6)

    def test_the_same_work_twice(self):
        for kind in (2, 3):
            self.check([], (kind, 1, 1, 0), -10)
            self.check([], (kind, 1, 1, -1), -10)

    def test_out_of_range(self):
        for kind, most in ((0, LAST_DAY), (1, LAST_DAY), (2, LARGEST_GAP), (3, LARGEST_GAP)):
            for amount in (-1, most + 1, LARGEST_NUMBER, -LARGEST_NUMBER):
                self.check([], (kind, 1, 2, amount), -9)

    def test_also_where_there_is_no_room_for_evidence(self):
        full = [not_after(e, 1, 150) for e in range(1, 101)]
        self.check(full, (1, 1, 0, 150), 1)
        self.check(full, (1, 1, 0, 99), 0)
        self.check(full, (2, 2, 1, 0), 2)

    def test_nothing_is_put_in(self):
        claims = [try_out(kind, 1, 2, amount) for kind in (0, 1, 2, 3) for amount in (0, 20, 99, 100, 150, 199, 200)]
        given = ask(*THREE, not_after(5, 3, 150), told(), list_of(), *claims, told(), list_of())[4:]
        self.assertEqual(given[:2], given[-2:])
        self.assertEqual(given[0], [0, 3, 1, 100, 199, 2, 100, 199, 3, 100, 199, 1, 5, 1, 3, 0, 150])


if __name__ == "__main__":
    unittest.main()
