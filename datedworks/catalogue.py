"""The works and the evidence of one list of calls, and what changes them.

Each method that changes something answers 0, or the number of its refusal and then changes nothing.
"""

from datedworks.calendars import is_day
from datedworks.datetexts import read_text
from datedworks.refusals import BAD_KEY, FULL, IN_USE, KEY_TAKEN, NOT_THERE, NO_WAY, OUT_OF_RANGE, SAME_WORK
from datedworks.ways import FOLLOWS, WITHIN, has_way

LARGEST_KEY = 1000000000
LARGEST_GAP = 1000000
MOST_WORKS = 40
MOST_EVIDENCE = 100


def is_key(number):
    return 1 <= number <= LARGEST_KEY


def is_gap(number):
    return 0 <= number <= LARGEST_GAP


class Catalogue:
    def __init__(self):
        # Laid out as the module ways tells.
        self.works = {}
        self.evidence = {}

    def add_work(self, key, text):
        if not is_key(key):
            return BAD_KEY
        interval = read_text(text)
        if interval[0] < 0:
            return interval[0]
        if key in self.works:
            return KEY_TAKEN
        if len(self.works) >= MOST_WORKS:
            return FULL
        self.works[key] = (interval[1], interval[2])
        return 0

    def restate(self, key, text):
        if key not in self.works:
            return NOT_THERE
        interval = read_text(text)
        if interval[0] < 0:
            return interval[0]
        restated = dict(self.works)
        restated[key] = (interval[1], interval[2])
        if not has_way(restated, self.evidence):
            return NO_WAY
        self.works = restated
        return 0

    def drop(self, key):
        if key not in self.works:
            return NOT_THERE
        for kind, u, v, amount in self.evidence.values():
            if key == u or key == v:
                return IN_USE
        self.works.pop(key)
        return 0

    def claim_refusal(self, kind, u, v, amount):
        """Why nothing of this kind can be said of these works; 0 if it can."""
        is_between = kind == FOLLOWS or kind == WITHIN
        if u not in self.works or (is_between and v not in self.works):
            return NOT_THERE
        if is_between and u == v:
            return SAME_WORK
        in_range = is_gap(amount) if is_between else is_day(amount)
        return 0 if in_range else OUT_OF_RANGE

    def add_evidence(self, key, kind, u, v, amount):
        if not is_key(key):
            return BAD_KEY
        if key in self.evidence:
            return KEY_TAKEN
        refusal = self.claim_refusal(kind, u, v, amount)
        if refusal < 0:
            return refusal
        if len(self.evidence) >= MOST_EVIDENCE:
            return FULL
        extended = dict(self.evidence)
        extended[key] = (kind, u, v, amount)
        if not has_way(self.works, extended):
            return NO_WAY
        self.evidence = extended
        return 0

    def withdraw(self, key):
        if key not in self.evidence:
            return NOT_THERE
        self.evidence.pop(key)
        return 0
