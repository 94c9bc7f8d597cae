"""A list of calls in, their answers out."""

from datedworks.calendars import is_day, weekday_of
from datedworks.calls import CALL_DROP, CALL_FOLLOWS, CALL_NOT_AFTER, CALL_NOT_BEFORE, CALL_READ, CALL_RESTATE
from datedworks.calls import CALL_SHOW, CALL_WEEKDAY, CALL_WITHDRAW, CALL_WITHIN, CALL_WORK
from datedworks.calls import NUMBER_COUNTS, ROW_COUNTS
from datedworks.catalogue import Catalogue
from datedworks.datetexts import read_text, show_day
from datedworks.questions import ask
from datedworks.refusals import OUT_OF_RANGE
from datedworks.ways import FOLLOWS, NOT_AFTER, NOT_BEFORE, WITHIN


def weekday_answer(day):
    return weekday_of(day) if is_day(day) else OUT_OF_RANGE


def change_works(catalogue, call, numbers, row):
    if call == CALL_WORK:
        return catalogue.add_work(numbers[0], row)
    if call == CALL_RESTATE:
        return catalogue.restate(numbers[0], row)
    return catalogue.drop(numbers[0])


def add_evidence(catalogue, call, numbers):
    if call == CALL_NOT_BEFORE:
        return catalogue.add_evidence(numbers[0], NOT_BEFORE, numbers[1], 0, numbers[2])
    if call == CALL_NOT_AFTER:
        return catalogue.add_evidence(numbers[0], NOT_AFTER, numbers[1], 0, numbers[2])
    kind = WITHIN if call == CALL_WITHIN else FOLLOWS
    return catalogue.add_evidence(numbers[0], kind, numbers[1], numbers[2], numbers[3])


def answer_of(catalogue, call, numbers, row):
    if call == CALL_READ:
        return read_text(row)
    if call == CALL_SHOW:
        return show_day(numbers[0], numbers[1])
    if call == CALL_WEEKDAY:
        return [weekday_answer(numbers[0])]
    if call in (CALL_WORK, CALL_RESTATE, CALL_DROP):
        return [change_works(catalogue, call, numbers, row)]
    if call in (CALL_NOT_BEFORE, CALL_NOT_AFTER, CALL_FOLLOWS, CALL_WITHIN):
        return [add_evidence(catalogue, call, numbers)]
    if call == CALL_WITHDRAW:
        return [catalogue.withdraw(numbers[0])]
    return ask(catalogue, call, numbers, row)


def answers(calls):
    """For each call, in order, how many numbers are answered, then these."""
    catalogue = Catalogue()
    answered = []
    place = 0
    while place < len(calls):
        call = calls[place]
        numbers_start = place + 1
        place = numbers_start + NUMBER_COUNTS[call]
        numbers = calls[numbers_start:place]
        row = []
        if ROW_COUNTS[call] == 1:
            row_start = place + 1
            place = row_start + calls[place]
            row = calls[row_start:place]
        answer = answer_of(catalogue, call, numbers, row)
        answered.append(len(answer))
        answered.extend(answer)
    return answered
