"""Random works and evidence with so few days that every way of dating, and every chain, can be tried."""

import itertools
import random
import unittest

from tests.helper import (all_ways, apart, ask, bound, drop, earliest, evidence, first_numbers, idle, interval_text,
                          is_met, latest, list_of, order, restate, told, try_out, why, withdraw, work_from)

KEYS = (1, 2, 3)


class State:
    """Works and evidence, the calls that put them in, and what these calls should answer."""

    def __init__(self, source):
        self.source, self.stated, self.kept, self.calls, self.expected = source, {}, {}, [], []
        for key in source.sample(KEYS, len(KEYS)):
            self.stated[key] = self.random_interval()
            self.calls.append(work_from(key, *self.stated[key]))
            self.expected.append(0)
        for e in source.sample(range(1, 30), 12):
            self.change(e)

    def random_interval(self):
        first = self.source.randint(0, 5)
        return (first, first + self.source.randint(0, 5))

    def change(self, e):
        stated, kept = dict(self.stated), dict(self.kept)
        self.calls.append(self.random_change(e, stated, kept))
        if next(all_ways(stated, kept), None) is None:
            self.expected.append(-7)
        else:
            self.expected.append(0)
            self.stated, self.kept = stated, kept

    def random_change(self, e, stated, kept):
        choice = self.source.randint(0, 11)
        if choice == 0:
            key = self.source.choice(KEYS)
            stated[key] = self.random_interval()
            return restate(key, interval_text(*stated[key]))
        if choice == 1 and kept:
            gone = self.source.choice(sorted(kept))
            del kept[gone]
            return withdraw(gone)
        kept[e] = self.random_claim(choice % 4)
        return evidence(e, *kept[e])

    def random_claim(self, kind):
        u, v = self.source.sample(KEYS, 2)
        return (kind, u, v, self.source.randint(0, 10)) if kind < 2 else (kind, u, v, self.source.randint(0, 4))

    def ways(self):
        return list(all_ways(self.stated, self.kept))

    def answers(self, calls):
        return ask(*self.calls, *calls)[len(self.calls):]


def expected_order(differences):
    x, y = min(differences), max(differences)
    if x == 0 and y == 0:
        return 3
    if x > 0:
        return 1
    if x == 0:
        return 2
    if y < 0:
        return 5
    return 4 if y == 0 else 6


def step(kept, number, key):
    """Where the link leads from this work, and what it adds; None if it's no link there."""
    if number not in kept:
        return None
    kind, u, v, amount = kept[number]
    if kind == 2 and u == key:
        return (v, -amount)
    if kind == 3 and v == key:
        return (u, amount)
    return None


def rest_day(stated, kept, number, key):
    if number == 0:
        return stated[key][1]
    if number in kept and kept[number][:2] == (1, key):
        return kept[number][3]
    return None


def day_given(stated, kept, key, chain):
    if not chain:
        return None
    added = 0
    for number in chain[:-1]:
        taken = step(kept, number, key)
        if taken is None:
            return None
        key = taken[0]
        added += taken[1]
    day = rest_day(stated, kept, chain[-1], key)
    return None if day is None else day + added


def first_chain(stated, kept, key, day):
    """By trying all lists of one number, then all of two, each time in rising order."""
    numbers = [0] + sorted(kept)
    for length in itertools.count(1):
        for chain in itertools.product(numbers, repeat=length):
            if day_given(stated, kept, key, chain) == day:
                return list(chain)


class Trials(unittest.TestCase):
    def setUp(self):
        source = random.Random(1758)
        self.states = [State(source) for attempt in range(150)]

    def test_what_is_refused(self):
        for state in self.states:
            self.assertEqual(first_numbers(*state.calls), state.expected, state.calls)

    def test_latest_and_earliest(self):
        for state in self.states:
            ways = state.ways()
            expected = [[max(way[key] for way in ways)] for key in KEYS]
            expected += [[min(way[key] for way in ways)] for key in KEYS]
            given = state.answers([latest(key) for key in KEYS] + [earliest(key) for key in KEYS])
            self.assertEqual(given, expected, state.calls)

    def test_apart_and_order(self):
        for state in self.states:
            ways = state.ways()
            for u, v in itertools.product(KEYS, KEYS):
                differences = [way[v] - way[u] for way in ways]
                expected = [[0, min(differences), max(differences)], [expected_order(differences)]]
                self.assertEqual(state.answers([apart(u, v), order(u, v)]), expected, (state.calls, u, v))

    def test_why(self):
        for state in self.states:
            ways = state.ways()
            expected = [[0] + first_chain(state.stated, state.kept, key, max(way[key] for way in ways)) for key in KEYS]
            self.assertEqual(state.answers([why(key) for key in KEYS]), expected, state.calls)

    def test_bound(self):
        for state in self.states:
            numbers = [0] + sorted(state.kept)
            asked, expected = [], []
            for length in (0, 1, 2, 2, 3, 3, 3, 4, 4, 4, 5, 5, 5):
                key = state.source.choice(KEYS)
                chain = self.random_chain(state, key, length, numbers)
                day = day_given(state.stated, state.kept, key, chain)
                asked.append(bound(key, chain))
                expected.append([-12] if day is None else [0, day])
            self.assertEqual(state.answers(asked), expected, (state.calls, asked))

    def random_chain(self, state, key, length, numbers):
        """For the most part one that can be gone along, as long as there are links that lead on."""
        chain = []
        for place in range(length):
            is_last = place == length - 1
            fitting = [number for number in numbers if step(state.kept, number, key)]
            if is_last:
                fitting = [number for number in numbers if rest_day(state.stated, state.kept, number, key) is not None]
            is_stray = not fitting or state.source.randint(0, 9) == 0
            chain.append(state.source.choice(numbers if is_stray else fitting))
            taken = step(state.kept, chain[-1], key)
            key = taken[0] if taken else key
        return chain

    def test_list_of_and_told(self):
        for state in self.states:
            ways = state.ways()
            rows = sorted((max(way[key] for way in ways), key) for key in KEYS)
            listed = [0] + [number for day, key in rows for number in (key, day)]
            recounted = [0, len(KEYS)]
            for key in KEYS:
                recounted += [key, *state.stated[key]]
            recounted.append(len(state.kept))
            for e, (kind, u, v, amount) in sorted(state.kept.items()):
                recounted += [e, kind, u, 0 if kind < 2 else v, amount]
            self.assertEqual(state.answers([list_of(), told()]), [listed, recounted], state.calls)

    def test_idle(self):
        for state in self.states:
            for e in state.kept:
                others = {key: piece for key, piece in state.kept.items() if key != e}
                met = all(is_met(way, *state.kept[e]) for way in all_ways(state.stated, others))
                self.assertEqual(state.answers([idle(e)]), [[1 if met else 0]], (state.calls, e))

    def test_test(self):
        for state in self.states:
            ways = state.ways()
            claims = [state.random_claim(kind) for kind in (0, 1, 2, 3) * 3]
            expected = []
            for claim in claims:
                met = {is_met(way, *claim) for way in ways}
                expected.append([2] if len(met) == 2 else [1 if met == {True} else 0])
            self.assertEqual(state.answers([try_out(*claim) for claim in claims]), expected, (state.calls, claims))

    def test_a_work_without_evidence_can_be_dropped(self):
        for state in self.states:
            spoken_of = {key for kind, u, v, amount in state.kept.values() for key in ([u] if kind < 2 else [u, v])}
            for key in KEYS:
                self.assertEqual(state.answers([drop(key)]), [[-11 if key in spoken_of else 0]])


if __name__ == "__main__":
    unittest.main()
