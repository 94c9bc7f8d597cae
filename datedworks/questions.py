"""The calls that ask about works and evidence: each gives back its whole answer and changes nothing."""

from datedworks.bounds import EACH_WAY_MEETS, distances, order_of, verdict
from datedworks.calls import CALL_APART, CALL_BOUND, CALL_EARLIEST, CALL_IDLE, CALL_LATEST, CALL_LIST_OF
from datedworks.calls import CALL_ORDER, CALL_TOLD, CALL_WHY
from datedworks.chains import chain_day, least_chain
from datedworks.refusals import BAD_KIND, NOT_THERE, NO_CHAIN
from datedworks.ways import NOT_BEFORE, WITHIN, earliest_days, latest_days


def ask_of_work(works, evidence, call, key):
    if key not in works:
        return [NOT_THERE]
    if call == CALL_LATEST:
        return [latest_days(works, evidence)[key]]
    if call == CALL_EARLIEST:
        return [earliest_days(works, evidence)[key]]
    return [0] + least_chain(works, evidence, key)


def bound(works, evidence, key, chain):
    if key not in works:
        return [NOT_THERE]
    day = chain_day(works, evidence, key, chain)
    return [NO_CHAIN] if day is None else [0, day]


def ask_of_two_works(works, evidence, call, u, v):
    if u not in works or v not in works:
        return [NOT_THERE]
    bounds = distances(works, evidence, u, v)
    if call == CALL_APART:
        return [0, bounds[0], bounds[1]]
    return [order_of(bounds[0], bounds[1])]


def list_of(works, evidence):
    latest = latest_days(works, evidence)
    answer = [0]
    for key in sorted(works, key=lambda work: (latest[work], work)):
        answer.extend([key, latest[key]])
    return answer


def told(works, evidence):
    answer = [0, len(works)]
    for key, interval in sorted(works.items()):
        answer.extend([key, interval[0], interval[1]])
    answer.append(len(evidence))
    for key, piece in sorted(evidence.items()):
        answer.extend([key, piece[0], piece[1], piece[2], piece[3]])
    return answer


def idle(works, evidence, key):
    if key not in evidence:
        return [NOT_THERE]
    others = dict(evidence)
    piece = others.pop(key)
    is_idle = verdict(works, others, piece[0], piece[1], piece[2], piece[3]) == EACH_WAY_MEETS
    return [1 if is_idle else 0]


def try_out(catalogue, kind, u, v, amount):
    if not NOT_BEFORE <= kind <= WITHIN:
        return [BAD_KIND]
    refusal = catalogue.claim_refusal(kind, u, v, amount)
    if refusal < 0:
        return [refusal]
    return [verdict(catalogue.works, catalogue.evidence, kind, u, v, amount)]


def ask(catalogue, call, numbers, row):
    works = catalogue.works
    evidence = catalogue.evidence
    if call in (CALL_LATEST, CALL_EARLIEST, CALL_WHY):
        return ask_of_work(works, evidence, call, numbers[0])
    if call in (CALL_APART, CALL_ORDER):
        return ask_of_two_works(works, evidence, call, numbers[0], numbers[1])
    if call == CALL_BOUND:
        return bound(works, evidence, numbers[0], row)
    if call == CALL_LIST_OF:
        return list_of(works, evidence)
    if call == CALL_TOLD:
        return told(works, evidence)
    if call == CALL_IDLE:
        return idle(works, evidence, numbers[0])
    return try_out(catalogue, numbers[0], numbers[1], numbers[2], numbers[3])
