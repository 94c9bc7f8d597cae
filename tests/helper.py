"""Calls by name, laid out as lists of numbers, and their answers taken apart again; all ways of dating tried out."""

import datetime
import itertools

from datedworks.days import answers

FIRST_GREGORIAN, LAST_GREGORIAN = 0, 474814
FIRST_JULIAN, LAST_JULIAN = 10, 109584
FIRST_REPUBLICAN, LAST_REPUBLICAN = 33867, 38979
LARGEST_KEY = 1000000000
LARGEST_NUMBER = 1000000000000


def row(text):
    numbers = list(text.encode("latin-1")) if isinstance(text, str) else list(text)
    return [len(numbers)] + numbers


def read(text):
    return [0] + row(text)


def show(calendar, day):
    return [1, calendar, day]


def weekday(day):
    return [2, day]


def work(key, text):
    return [3, key] + row(text)


def restate(key, text):
    return [4, key] + row(text)


def drop(key):
    return [5, key]


def not_before(e, w, d):
    return [6, e, w, d]


def not_after(e, w, d):
    return [7, e, w, d]


def follows(e, u, v, g):
    return [8, e, u, v, g]


def within(e, u, v, g):
    return [9, e, u, v, g]


def withdraw(e):
    return [10, e]


def latest(key):
    return [11, key]


def earliest(key):
    return [12, key]


def apart(u, v):
    return [13, u, v]


def order(u, v):
    return [14, u, v]


def why(key):
    return [15, key]


def bound(key, chain):
    return [16, key] + row(chain)


def list_of():
    return [17]


def told():
    return [18]


def idle(e):
    return [19, e]


def try_out(kind, u, v, g):
    """The call test: a name that begins so would look like a test itself."""
    return [20, kind, u, v, g]


def interval_text(first, last):
    """The text of an interval of days in the Gregorian calendar."""
    start = datetime.date(1700, 1, 1)
    return f"{start + datetime.timedelta(first)}..{start + datetime.timedelta(last)}"


def work_from(key, first, last):
    return work(key, interval_text(first, last))


def evidence(e, kind, u, v, amount):
    """The call for evidence of that kind; v isn't looked at for kinds 0 and 1."""
    if kind < 2:
        return (not_before, not_after)[kind](e, u, amount)
    return (follows, within)[kind - 2](e, u, v, amount)


def ask(*calls):
    """The answer of each call of one list, as a list of its own."""
    laid_out = []
    for call in calls:
        laid_out.extend(call)
    given = answers(laid_out)
    taken, place = [], 0
    while place < len(given):
        taken.append(given[place + 1:place + 1 + given[place]])
        place += 1 + given[place]
    return taken


def ask_all(calls):
    """As ask, of calls that don't hang together: as many lists as there must be."""
    taken = []
    for start in range(0, len(calls), 400):
        taken.extend(ask(*calls[start:start + 400]))
    return taken


def last_answer(*calls):
    return ask(*calls)[-1]


def first_numbers(*calls):
    """The one number of each answer: for calls that answer no more."""
    taken = ask(*calls)
    for answer in taken:
        if len(answer) != 1:
            raise ValueError(answer)
    return [answer[0] for answer in taken]


def shown_text(calendar, day):
    answer = last_answer(show(calendar, day))
    if answer[0] != 0:
        return answer
    return bytes(answer[1:]).decode("latin-1")


def all_ways(stated, kept):
    """Each way of dating as a dict, one after another, found by trying each."""
    keys = sorted(stated)
    for days in itertools.product(*[range(stated[key][0], stated[key][1] + 1) for key in keys]):
        dated = dict(zip(keys, days))
        if all(is_met(dated, *piece) for piece in kept.values()):
            yield dated


def is_met(dated, kind, u, v, amount):
    if kind < 2:
        return (dated[u] >= amount, dated[u] <= amount)[kind]
    return (dated[u] + amount <= dated[v], dated[v] <= dated[u] + amount)[kind - 2]
