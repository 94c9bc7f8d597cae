import random
import unittest

from datedworks.chains import chain_day
from datedworks.ways import FOLLOWS
from tests.helper import (LARGEST_KEY, LARGEST_NUMBER, ask, bound, evidence, first_numbers, follows, last_answer,
                          latest, not_after, not_before, restate, why, within, withdraw, work, work_from)

LAST_DAY = 474814
EXAMPLE = [work(7, "1820"), work(8, "1820-06..1821"), follows(5, 8, 7, 30)]
FIVE = [work_from(key, 0, 1000) for key in (1, 2, 3, 4, 5)]


class Why(unittest.TestCase):
    def check(self, put, key, chain):
        """The chain is what why answers, and gives what latest answers."""
        given = ask(*put, why(key), latest(key), bound(key, chain))[-3:]
        self.assertEqual(given[0], [0] + chain)
        self.assertEqual(given[2], [0] + given[1])

    def test_the_example_of_the_document(self):
        self.check(EXAMPLE, 8, [5, 0])
        self.check(EXAMPLE, 7, [0])

    def test_the_stated_interval(self):
        self.check(FIVE, 1, [0])
        self.check([*FIVE, not_before(9, 1, 1000)], 1, [0])

    def test_evidence_about_the_work_itself(self):
        self.check([*FIVE, not_after(9, 1, 999)], 1, [9])
        self.check([*FIVE, not_after(9, 1, 1001)], 1, [0])
        self.check([*FIVE, not_after(9, 2, 999)], 1, [0])
        self.check([*FIVE, not_after(8, 1, 999), not_after(9, 1, 998)], 1, [9])

    def test_the_stated_day_against_evidence_of_the_same_day(self):
        self.check([*FIVE, not_after(9, 1, 1000)], 1, [0])
        self.check([*FIVE, follows(3, 1, 2, 5), not_after(9, 2, 1000)], 1, [3, 0])

    def test_the_least_of_rests_of_the_same_day(self):
        for keys in ((7, 8, 9), (9, 8, 7), (8, 7, 9)):
            put = [*FIVE, *[not_after(e, 1, 500) for e in keys]]
            self.check(put, 1, [7])
            self.check([*put, follows(100, 2, 1, 1)], 2, [100, 7])

    def test_several_links(self):
        put = [*FIVE, follows(11, 1, 2, 10), within(12, 3, 2, 5), follows(13, 3, 4, 20), not_after(14, 4, 500)]
        self.check(put, 1, [11, 12, 13, 14])
        self.check(put, 2, [12, 13, 14])
        self.check(put, 3, [13, 14])
        self.check(put, 4, [14])
        self.check(put, 5, [0])

    def test_links_that_go_up_alone(self):
        put = [*FIVE, within(11, 2, 1, 10), within(12, 3, 2, 10), restate(3, "1700-01-01")]
        self.check(put, 1, [11, 12, 0])

    def test_over_all_works(self):
        keys = list(range(1, 41))
        for line in (keys, keys[::-1]):
            put = [work_from(key, 0, 5000) for key in keys]
            put += [follows(e, line[e - 1], line[e], 100) for e in range(1, 40)]
            self.check(put, line[0], [*range(1, 40), 0])
            self.check(put, line[20], [*range(21, 40), 0])

    def test_the_first_number_is_least(self):
        for keys in ((21, 22), (22, 21)):
            put = [*FIVE, follows(keys[0], 1, 2, 10), follows(keys[1], 1, 3, 10)]
            self.check(put, 1, [21, 0])
        # The lesser link counts ahead of what lies behind it.
        put = [*FIVE, follows(21, 1, 2, 10), follows(22, 1, 3, 10), not_after(99, 2, 900), not_after(1, 3, 900)]
        self.check(put, 1, [21, 99])

    def test_two_links_between_the_same_works(self):
        for keys in ((21, 22), (22, 21)):
            self.check([*FIVE, follows(keys[0], 1, 2, 10), follows(keys[1], 1, 2, 10)], 1, [21, 0])

    def test_the_second_number_is_least(self):
        for keys in ((21, 22), (22, 21)):
            put = [*FIVE, follows(30, 1, 2, 10), follows(keys[0], 2, 3, 10), follows(keys[1], 2, 4, 10)]
            self.check(put, 1, [30, 21, 0])
            put = [*FIVE, follows(30, 1, 2, 10), not_after(keys[0], 2, 900), not_after(keys[1], 2, 900)]
            self.check(put, 1, [30, 21])

    def test_fewer_links_though_their_keys_are_greater(self):
        put = [*FIVE, follows(1, 1, 2, 10), follows(2, 2, 3, 10), follows(900, 1, 4, 20)]
        self.check(put, 1, [900, 0])
        put = [*FIVE, follows(2, 1, 2, 10), follows(1, 2, 3, 10), follows(900, 1, 3, 20)]
        self.check(put, 1, [900, 0])
        put = [*FIVE, follows(3, 1, 2, 10), follows(2, 2, 3, 10), follows(1, 3, 4, 10), follows(900, 2, 4, 20)]
        self.check(put, 1, [3, 900, 0])
        put = [*FIVE, follows(1, 1, 2, 10), not_after(900, 1, 990)]
        self.check(put, 1, [900])
        # The least first link leads on a longer way.
        put = [*FIVE, follows(1, 1, 2, 0), follows(2, 2, 3, 5), not_after(3, 3, 105), follows(8, 1, 4, 0),
               not_after(9, 4, 100)]
        self.check(put, 1, [8, 9])

    def test_a_greater_key_that_bounds_more_closely(self):
        self.check([*FIVE, follows(1, 1, 2, 10), follows(2, 1, 3, 11)], 1, [2, 0])
        self.check([*FIVE, follows(1, 1, 2, 10), follows(2, 2, 3, 10), follows(9, 1, 4, 19)], 1, [1, 2, 0])

    def test_links_by_no_day_in_a_ring(self):
        ring = [follows(1, 1, 2, 0), follows(2, 2, 3, 0), follows(3, 3, 1, 0)]
        self.check([*FIVE, *ring], 1, [0])
        put = [*FIVE, *ring, not_after(9, 3, 500)]
        self.check(put, 1, [1, 2, 9])
        self.check(put, 2, [2, 9])
        self.check(put, 3, [9])

    def test_keys_of_works_and_of_evidence_apart(self):
        self.check([*FIVE, follows(2, 1, 3, 10), not_after(3, 3, 900), not_after(1, 2, 900)], 1, [2, 3])

    def test_the_greatest_keys(self):
        put = [work_from(LARGEST_KEY, 0, 9), work_from(1, 0, 9), follows(LARGEST_KEY, LARGEST_KEY, 1, 4),
               not_after(LARGEST_KEY - 1, 1, 8)]
        self.check(put, LARGEST_KEY, [LARGEST_KEY, LARGEST_KEY - 1])

    def test_after_changes(self):
        put = [*FIVE, follows(11, 1, 2, 10), not_after(12, 2, 500)]
        self.check(put, 1, [11, 12])
        self.check([*put, withdraw(12)], 1, [11, 0])
        self.check([*put, withdraw(11)], 1, [0])
        self.check([*put, restate(1, "1700-02")], 1, [0])

    def test_no_work_of_that_key(self):
        for key in (9, 5, 0, -7, LARGEST_NUMBER):
            self.assertEqual(last_answer(*EXAMPLE, why(key)), [-6], key)
        self.assertEqual(last_answer(why(1)), [-6])

    def test_many_works_and_pieces_of_evidence(self):
        source = random.Random(1820)
        for attempt in range(20):
            put = self.random_calls(source)
            keys = range(1, 41)
            chains = [answer[1:] for answer in ask(*put, *[why(key) for key in keys])[len(put):]]
            reckoned = first_numbers(*put, *[latest(key) for key in keys])[len(put):]
            given = ask(*put, *[bound(key, chains[key - 1]) for key in keys])[len(put):]
            self.assertEqual(given, [[0, day] for day in reckoned])

    def random_calls(self, source):
        calls = [work_from(key, source.randint(0, 300), source.randint(300, 600)) for key in range(1, 41)]
        for e in source.sample(range(1, 1000), 150):
            u, v = source.sample(range(1, 41), 2)
            kind = source.choice((1, 2, 3, 3))
            calls.append(evidence(e, kind, u, v, source.randint(200, 600) if kind == 1 else source.randint(0, 40)))
        return calls


class Bound(unittest.TestCase):
    LINKED = [*FIVE, follows(11, 1, 2, 10), within(12, 3, 2, 5), follows(13, 3, 4, 20), not_after(14, 4, 500),
              not_before(15, 4, 100)]

    def given(self, key, chain):
        return last_answer(*self.LINKED, bound(key, chain))

    def test_the_example_of_the_document(self):
        self.assertEqual(last_answer(*EXAMPLE, bound(8, [5, 0])), [0, 44163])
        self.assertEqual(last_answer(*EXAMPLE, bound(8, [0])), [0, 44558])
        self.assertEqual(last_answer(*EXAMPLE, bound(7, [0])), [0, 44193])

    def test_rests(self):
        self.assertEqual(self.given(4, [0]), [0, 1000])
        self.assertEqual(self.given(4, [14]), [0, 500])

    def test_links(self):
        self.assertEqual(self.given(1, [11, 0]), [0, 990])
        self.assertEqual(self.given(2, [12, 0]), [0, 1005])
        self.assertEqual(self.given(1, [11, 12, 0]), [0, 995])
        self.assertEqual(self.given(1, [11, 12, 13, 0]), [0, 975])
        self.assertEqual(self.given(1, [11, 12, 13, 14]), [0, 475])

    def test_a_day_above_the_last_one(self):
        put = [work(1, "1700..2999"), work(2, "1700..2999"), within(1, 1, 2, 1000000), within(2, 2, 1, 1000000)]
        self.assertEqual(last_answer(*put, bound(2, [1, 0])), [0, LAST_DAY + 1000000])
        self.assertEqual(last_answer(*put, bound(2, [1, 2, 1, 0])), [0, LAST_DAY + 3000000])
        longest = [2, 1] * 29 + [2, 0]
        self.assertEqual(len(longest), 60)
        self.assertEqual(last_answer(*put, bound(1, longest)), [0, LAST_DAY + 59000000])

    def test_a_sum_that_is_below_0_on_the_way(self):
        put = [work(1, "1700"), work(2, "1900"), within(1, 1, 2, 80000), follows(2, 1, 2, 70000)]
        self.assertEqual(last_answer(*put, bound(1, [2, 1, 2, 1, 0])), [0, 364 + 20000])
        self.assertEqual(last_answer(*put, bound(1, [2, 0])), [0, 73412 - 70000])

    def test_the_first_day_of_all(self):
        self.assertEqual(last_answer(work_from(1, 0, 9), work_from(2, 0, 9), follows(1, 1, 2, 9), bound(1, [1, 0])),
                         [0, 0])

    def test_a_day_below_0(self):
        # No work's day is later than what a chain for it gives, and none is below 0: so where there is a way of
        # dating a chain gives no day below 0, and works and evidence without a way are handed in here.
        works = {1: (0, 9), 2: (0, 9)}
        self.assertEqual(chain_day(works, {1: (FOLLOWS, 1, 2, 10)}, 1, [1, 0]), -1)
        self.assertEqual(chain_day(works, {1: (FOLLOWS, 1, 2, 1000000)}, 1, [1, 0]), 9 - 1000000)

    def test_a_work_more_than_once(self):
        put = [*FIVE, follows(1, 1, 2, 10), within(2, 1, 2, 30), not_after(3, 1, 600)]
        self.assertEqual(last_answer(*put, bound(1, [1, 2, 0])), [0, 1020])
        self.assertEqual(last_answer(*put, bound(1, [1, 2, 1, 2, 3])), [0, 640])
        self.assertEqual(last_answer(*put, bound(1, [1, 2, 1, 0])), [0, 1010])

    def test_an_empty_list(self):
        for key in (1, 2, 5):
            self.assertEqual(self.given(key, []), [-12])

    def test_0_among_the_links(self):
        for chain in ([0, 0], [0, 11, 0], [11, 0, 0], [11, 0, 12, 0], [0, 14]):
            self.assertEqual(self.given(1, chain), [-12], chain)
        self.assertEqual(self.given(4, [0, 14]), [-12])

    def test_evidence_of_kind_0(self):
        self.assertEqual(self.given(4, [15]), [-12])
        self.assertEqual(self.given(4, [15, 0]), [-12])
        self.assertEqual(self.given(4, [15, 14]), [-12])
        self.assertEqual(self.given(3, [13, 15]), [-12])

    def test_evidence_of_kind_1_among_the_links(self):
        self.assertEqual(self.given(4, [14, 0]), [-12])
        self.assertEqual(self.given(4, [14, 14]), [-12])

    def test_a_link_as_the_rest(self):
        self.assertEqual(self.given(1, [11]), [-12])
        self.assertEqual(self.given(2, [12]), [-12])
        self.assertEqual(self.given(1, [11, 12]), [-12])

    def test_evidence_about_other_works(self):
        for key, chain in ((1, [14]), (1, [13, 0]), (1, [12, 0]), (1, [11, 13, 0]), (1, [11, 14]), (5, [11, 0])):
            self.assertEqual(self.given(key, chain), [-12], (key, chain))

    def test_links_the_wrong_way_round(self):
        self.assertEqual(self.given(2, [11, 0]), [-12])
        self.assertEqual(self.given(3, [12, 0]), [-12])
        self.assertEqual(self.given(4, [13, 14]), [-12])

    def test_a_key_that_no_evidence_has(self):
        for number in (1, 16, -11, -1, LARGEST_NUMBER, -LARGEST_NUMBER):
            for chain in ([number], [number, 0], [11, number], [11, number, 0]):
                self.assertEqual(self.given(1, chain), [-12], chain)
        self.assertEqual(last_answer(*self.LINKED, withdraw(11), bound(1, [11, 0])), [-12])

    def test_no_work_of_that_key(self):
        for key in (9, 11, 0, -1, LARGEST_NUMBER):
            for chain in ([], [0], [11, 0], [99]):
                self.assertEqual(self.given(key, chain), [-6], (key, chain))


if __name__ == "__main__":
    unittest.main()
