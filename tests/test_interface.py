import contextlib
import io
import unittest

from datedworks.days import answers
from tests.helper import (LARGEST_NUMBER, apart, ask, bound, drop, earliest, follows, idle, latest, list_of, not_after,
                          not_before, order, read, restate, show, told, try_out, weekday, why, withdraw, within, work)

EXAMPLE = [work(7, "1820"), work(8, "1820-06..1821"), follows(5, 8, 7, 30)]
QUESTIONS = [latest(7), latest(8), latest(9), earliest(7), earliest(8), earliest(9), apart(7, 8), apart(7, 7),
             apart(7, 9), order(7, 8), order(8, 7), order(9, 7), why(7), why(8), why(9), bound(8, [5, 0]),
             bound(8, []), bound(9, [0]), list_of(), told(), idle(5), idle(6), try_out(1, 7, 0, 44000),
             try_out(0, 7, 0, 44010), try_out(2, 8, 7, 31), try_out(4, 7, 8, 0), try_out(0, 9, 0, 0),
             try_out(3, 7, 7, 0), try_out(0, 7, 0, -1)]
QUESTIONS_ANSWERED = [[44193], [44163], [-6], [44010], [43980], [-6], [0, -213, -30], [0, 0, 0], [-6], [5], [1], [-6],
                      [0, 0], [0, 5, 0], [-6], [0, 44163], [-12], [-6], [0, 8, 44163, 7, 44193],
                      [0, 2, 7, 43828, 44193, 8, 43980, 44558, 1, 5, 2, 8, 7, 30], [0], [-6], [0], [1], [2], [-13],
                      [-6], [-10], [-9]]
EVERY_CALL = [read("1758"), read(""), show(0, 0), show(1, 0), weekday(0), weekday(-1), work(7, "1820"),
              work(8, "1820-06..1821"), work(8, "1820"), restate(7, "1820..1821"), restate(7, "1820"),
              follows(5, 8, 7, 30), not_after(6, 7, 44000), *QUESTIONS, within(6, 7, 8, 3), withdraw(6), drop(8),
              withdraw(5), drop(8)]
REFUSED = [read("1820-13"), show(3, 0), weekday(-1), work(0, "1820"), work(9, "1820-13"), work(9, ""),
           work(9, "1821..1820"), work(7, "1820"), restate(9, "1820"), restate(7, "1820-13"), restate(7, "1900..1899"),
           restate(7, "1819"), drop(9), drop(7), drop(8), not_before(0, 7, 0), not_before(5, 7, 0),
           not_before(6, 9, 0), not_before(6, 7, -1), not_before(6, 7, 44194), not_after(6, 7, 44000),
           follows(6, 7, 7, 0), follows(6, 7, 8, 0), within(6, 7, 9, 0), within(6, 8, 7, 29), within(6, 7, 8, -1),
           withdraw(6), withdraw(7), latest(9), earliest(9), apart(7, 9), order(9, 7), why(9), bound(9, [0]),
           bound(7, []), idle(6), try_out(4, 7, 8, 0), try_out(0, 9, 0, 0), try_out(2, 7, 7, 0), try_out(3, 7, 8, -1)]


def laid_out_answers(given):
    return [number for answer in given for number in [len(answer)] + answer]


def laid_out(calls):
    return [number for call in calls for number in call]


class Interface(unittest.TestCase):
    def test_how_answers_are_laid_out(self):
        given = answers(laid_out(EVERY_CALL))
        self.assertEqual(given, [3, 0, 21184, 21548, 1, -1, 11, 0, 49, 55, 48, 48, 45, 48, 49, 45, 48, 49, 1, -2,
                                 1, 5, 1, -9, 1, 0, 1, 0, 1, -5, 1, 0, 1, 0, 1, 0, 1, -7,
                                 *laid_out_answers(QUESTIONS_ANSWERED), 1, 0, 1, 0, 1, -11, 1, 0, 1, 0])

    def test_how_questions_and_their_answers_are_laid_out(self):
        put = [3, 7, 4, 49, 56, 50, 48, 3, 8, 4, 49, 56, 50, 48, 8, 5, 8, 7, 30]
        for asked, given in (([11, 8], [1, 44163]), ([12, 7], [1, 43858]), ([13, 7, 8], [3, 0, -365, -30]),
                             ([14, 8, 7], [1, 1]), ([15, 8], [3, 0, 5, 0]), ([16, 8, 2, 5, 0], [2, 0, 44163]),
                             ([16, 8, 0], [1, -12]), ([17], [5, 0, 8, 44163, 7, 44193]),
                             ([18], [14, 0, 2, 7, 43828, 44193, 8, 43828, 44193, 1, 5, 2, 8, 7, 30]),
                             ([19, 5], [1, 0]), ([20, 2, 8, 7, 31], [1, 2])):
            self.assertEqual(answers(put + asked), [1, 0] * 3 + given)
            # What comes behind is taken where the call ends.
            self.assertEqual(answers(put + asked + [2, 0] + asked), [1, 0] * 3 + given + [1, 5] + given)

    def test_any_call_may_come_first(self):
        self.assertEqual(answers([10, 1]), [1, -6])
        self.assertEqual(answers([9, 1, 2, 3, 4]), [1, -6])
        self.assertEqual(answers([6, 1, 2, 3]), [1, -6])
        self.assertEqual(answers([5, 1]), [1, -6])
        self.assertEqual(answers([4, 1, 0]), [1, -6])
        self.assertEqual(answers([3, 1, 0]), [1, -1])
        self.assertEqual(answers([2, 3]), [1, 1])
        self.assertEqual(answers([0, 0]), [1, -1])
        for asked in ([11, 1], [12, 1], [13, 1, 1], [14, 1, 1], [15, 1], [16, 1, 0], [19, 1], [20, 0, 1, 1, 1]):
            self.assertEqual(answers(asked), [1, -6])
        self.assertEqual(answers([17]), [1, 0])
        self.assertEqual(answers([18]), [3, 0, 0, 0])

    def test_an_empty_text_between_calls(self):
        self.assertEqual(answers([0, 0, 3, 1, 0, 4, 1, 0, 2, 0]), [1, -1, 1, -1, 1, -6, 1, 5])

    def test_numbers_of_a_text_are_no_calls(self):
        self.assertEqual(answers([0, 3, 0, 2, 5, 2, 0]), [1, -1, 1, 5])
        self.assertEqual(answers([16, 1, 3, 17, 18, 17, 2, 0]), [1, -6, 1, 5])

    def test_whole_numbers_alone_are_answered(self):
        for number in answers(laid_out(EVERY_CALL)):
            self.assertIs(type(number), int)

    def test_what_is_handed_in_stays_as_it_was(self):
        calls = laid_out(EVERY_CALL)
        before = list(calls)
        answers(calls)
        self.assertEqual(calls, before)

    def test_what_is_handed_in_is_not_changed_for_a_while_either(self):
        calls = laid_out(EVERY_CALL)
        self.assertEqual(answers(Unchanging(calls)), answers(calls))

    def test_what_is_given_back_is_a_list_of_its_own(self):
        calls = laid_out(EVERY_CALL)
        first = answers(calls)
        expected = list(first)
        first.clear()
        self.assertEqual(answers(calls), expected)

    def test_a_second_time_answers_as_the_first(self):
        calls = laid_out(EVERY_CALL)
        self.assertEqual(answers(calls), answers(calls))
        kept = laid_out([work(7, "1820"), not_after(1, 7, 44000)])
        self.assertEqual(answers(kept), [1, 0, 1, 0])
        self.assertEqual(answers(kept), [1, 0, 1, 0])
        self.assertEqual(answers(drop(7) + withdraw(1)), [1, -6, 1, -6])

    def test_nothing_is_printed(self):
        printed = io.StringIO()
        with contextlib.redirect_stdout(printed), contextlib.redirect_stderr(printed):
            answers(laid_out(EVERY_CALL))
        self.assertEqual(printed.getvalue(), "")

    def test_what_is_refused_changes_nothing(self):
        before = ask(*EXAMPLE, told(), list_of())[3:]
        for call in REFUSED:
            given = ask(*EXAMPLE, call, told(), list_of())[3:]
            self.assertLess(given[0][0], 0, call)
            self.assertEqual(len(given[0]), 1, call)
            self.assertEqual(given[1:], before, call)
        self.assertEqual(ask(*EXAMPLE, *REFUSED, told(), list_of())[-2:], before)

    def test_no_question_changes_anything(self):
        before = ask(*EXAMPLE, told(), list_of())[3:]
        for call in QUESTIONS:
            self.assertEqual(ask(*EXAMPLE, call, told(), list_of())[4:], before, call)
        given = ask(*EXAMPLE, *QUESTIONS, *QUESTIONS)[3:]
        self.assertEqual(given, QUESTIONS_ANSWERED * 2)

    def test_a_longest_chain(self):
        far = [16, 1, 60] + [LARGEST_NUMBER, -LARGEST_NUMBER] * 30
        self.assertEqual(answers(work(1, "1820") + far * 380), [1, 0] + [1, -12] * 380)

    def test_as_many_questions_as_there_may_be(self):
        works = [work(key, "1700..2999") for key in range(1, 41)]
        links = [follows(e, e, e + 1, 1) for e in range(1, 40)]
        slack = [within(100 + e, 1 + e % 40, 1 + (e + 7) % 40, 1000) for e in range(61)]
        put = [*works, *links, *slack]
        asked = [apart(40, 1), order(1, 40), idle(39), latest(1), earliest(40), try_out(2, 1, 40, 40)] * 43
        given = ask(*put, *asked)[140:]
        # From 1 to 40 it's six times seven works on within 1000 days, and three works back by a day each.
        self.assertEqual(given, [[0, -5997, -39], [1], [0], [474775], [39], [2]] * 43)
        self.assertEqual(ask(*put, why(1))[140:], [[0, *range(1, 40), 0]])

    def test_as_many_calls_as_there_may_be(self):
        works = [work(key, "1700..2999") for key in range(1, 41)]
        links = [follows(e, e, e + 1, 1) for e in range(1, 40)]
        slack = [within(100 + e, 1 + e % 40, 1 + (e + 7) % 40, 1000) for e in range(60)]
        rings = [follows(1000 + e, 40 - e % 39, 1, 0) for e in range(261)]
        given = answers(laid_out(works + links + slack + rings))
        self.assertEqual(given, [1, 0] * 139 + [1, -7] * 261)
        self.assertEqual(answers(read("1" * 60) * 380), [1, -1] * 380)


class Unchanging(list):
    """A list that can't be changed."""

    def refuse(self, *given):
        raise RuntimeError("changed")

    __setitem__ = __delitem__ = __iadd__ = __imul__ = refuse
    append = clear = extend = insert = pop = remove = reverse = sort = refuse


if __name__ == "__main__":
    unittest.main()
