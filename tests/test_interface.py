import unittest

from datedworks.days import answers
from tests.helper import drop, follows, not_after, read, restate, show, weekday, withdraw, within, work

EVERY_CALL = [read("1758"), read(""), show(0, 0), show(1, 0), weekday(0), weekday(-1), work(7, "1820"),
              work(8, "1820-06..1821"), work(8, "1820"), restate(7, "1820..1821"), restate(7, "1820"),
              follows(5, 8, 7, 30), not_after(6, 7, 44000), within(6, 7, 8, 3), withdraw(6), drop(8), withdraw(5),
              drop(8)]


def laid_out(calls):
    return [number for call in calls for number in call]


class Interface(unittest.TestCase):
    def test_how_answers_are_laid_out(self):
        given = answers(laid_out(EVERY_CALL))
        self.assertEqual(given, [3, 0, 21184, 21548, 1, -1, 11, 0, 49, 55, 48, 48, 45, 48, 49, 45, 48, 49, 1, -2,
                                 1, 5, 1, -9, 1, 0, 1, 0, 1, -5, 1, 0, 1, 0, 1, 0, 1, -7, 1, 0, 1, 0, 1, -11, 1, 0,
                                 1, 0])

    def test_any_call_may_come_first(self):
        self.assertEqual(answers([10, 1]), [1, -6])
        self.assertEqual(answers([9, 1, 2, 3, 4]), [1, -6])
        self.assertEqual(answers([6, 1, 2, 3]), [1, -6])
        self.assertEqual(answers([5, 1]), [1, -6])
        self.assertEqual(answers([4, 1, 0]), [1, -6])
        self.assertEqual(answers([3, 1, 0]), [1, -1])
        self.assertEqual(answers([2, 3]), [1, 1])
        self.assertEqual(answers([0, 0]), [1, -1])

    def test_an_empty_text_between_calls(self):
        self.assertEqual(answers([0, 0, 3, 1, 0, 4, 1, 0, 2, 0]), [1, -1, 1, -1, 1, -6, 1, 5])

    def test_numbers_of_a_text_are_no_calls(self):
        self.assertEqual(answers([0, 3, 0, 2, 5, 2, 0]), [1, -1, 1, 5])

    def test_whole_numbers_alone_are_answered(self):
        for number in answers(laid_out(EVERY_CALL)):
            self.assertIs(type(number), int)

    def test_what_is_handed_in_stays_as_it_was(self):
        calls = laid_out(EVERY_CALL)
        before = list(calls)
        answers(calls)
        self.assertEqual(calls, before)

    def test_what_is_handed_in_is_not_changed_for_a_while_either(self):
        calls = laid_out(EVERY_CALL)
        self.assertEqual(answers(Unchanging(calls)), answers(calls))

    def test_what_is_given_back_is_a_list_of_its_own(self):
        calls = laid_out(EVERY_CALL)
        first = answers(calls)
        expected = list(first)
        first.clear()
        self.assertEqual(answers(calls), expected)

    def test_a_second_time_answers_as_the_first(self):
        calls = laid_out(EVERY_CALL)
        self.assertEqual(answers(calls), answers(calls))
        kept = laid_out([work(7, "1820"), not_after(1, 7, 44000)])
        self.assertEqual(answers(kept), [1, 0, 1, 0])
        self.assertEqual(answers(kept), [1, 0, 1, 0])
        self.assertEqual(answers(drop(7) + withdraw(1)), [1, -6, 1, -6])

    def test_as_many_calls_as_there_may_be(self):
        works = [work(key, "1700..2999") for key in range(1, 41)]
        links = [follows(e, e, e + 1, 1) for e in range(1, 40)]
        slack = [within(100 + e, 1 + e % 40, 1 + (e + 7) % 40, 1000) for e in range(60)]
        rings = [follows(1000 + e, 40 - e % 39, 1, 0) for e in range(261)]
        given = answers(laid_out(works + links + slack + rings))
        self.assertEqual(given, [1, 0] * 139 + [1, -7] * 261)
        self.assertEqual(answers(read("1" * 60) * 380), [1, -1] * 380)


class Unchanging(list):
    """A list that can't be changed."""

    def refuse(self, *given):
        raise RuntimeError("changed")

    __setitem__ = __delitem__ = __iadd__ = __imul__ = refuse
    append = clear = extend = insert = pop = remove = reverse = sort = refuse


if __name__ == "__main__":
    unittest.main()
