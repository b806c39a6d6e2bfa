"""The interface: one list in, one list out, nothing kept and nothing changed."""

import inspect
import unittest

from tests.helper import MOST, OUT_SIZES, SMALL, START, TAKES, ask, calls_at, numbers_of, whole_view
from valleyrounds.valley import answers


class Watched(list):
    """A list that tells on whoever would change it, though it be put back later."""

    def refuse(self, *args, **named):
        raise AssertionError("what is handed in was changed")

    append = extend = insert = pop = remove = clear = sort = reverse = refuse
    __setitem__ = __delitem__ = __iadd__ = __imul__ = refuse


class Interface(unittest.TestCase):
    def test_one_parameter_by_its_name(self):
        self.assertEqual(list(inspect.signature(answers).parameters), ["calls"])
        self.assertEqual(answers(calls=[0]), [1, 0])

    def test_number_by_number(self):
        calls = [0, 1, 0, 5, 1, 1, 7, 2, 1, 6, 3, 2, 1, 5, 0, 2, 6, 2, 0, 7, 0, 8, 0, 9, 0,
                 10, 0, 1, 11, 0, 2, 12, 0, 2, 12, 0, 3, 4, 4, 0]
        expected = [1, 0, 1, 1, 1, 2, 1, 5, 1, 1, 1, 13, 15, 3, 3, 2, 1, 0, 0, 0, 0, 0, 0, 0, 0, 0, 0, 0,
                    3, 2, 6, 13, 1, 26, 2, 13, 2, 3, 1, 6, 5, 3, 2, 13, 3, 1, 13, 1, -2, 1, 1, 1, -17, 1, 0]
        self.assertEqual(answers(calls), expected)

    def test_refusals_are_one_number(self):
        for number in range(1, 13):
            if TAKES[number]:
                calls = [0, number] + [MOST] * TAKES[number] + [8, 0]
                self.assertEqual(answers(calls), [1, 0, 1, -2, 1, 0])

    def test_counts_ahead_of_answers(self):
        for number in range(1, 13):
            if number not in (1, 2, 3, 4):
                calls = [0, number] + [0] * TAKES[number]
                self.assertEqual(answers(calls)[2], 1 + OUT_SIZES[number])

    def test_whole_numbers_alone(self):
        given = answers(numbers_of(SMALL + calls_at(3, 6) + whole_view(7)))
        self.assertIs(type(given), list)
        self.assertEqual({type(n) for n in given}, {int})

    def test_1000_calls(self):
        calls = SMALL + calls_at(3, 5, 6)
        calls = calls + [("between", 6, 5), ("way", 5, 3)] * ((1000 - len(calls)) // 2)
        given = ask(*calls)
        self.assertEqual(len(calls), 1000)
        self.assertEqual(len(given), 1000)
        self.assertEqual(given[-2:], [[6, 7, 5, 2, 1, 3, 6] + [0] * 8, [1, 12, 8]])

    def test_what_is_handed_in_stays_the_same(self):
        calls = numbers_of(SMALL + calls_at(3, 6) + whole_view(7) + [("clear",), START, ("village", 9, 9)])
        before = list(calls)
        plain = answers(calls)
        self.assertEqual(calls, before)
        self.assertEqual(answers(Watched(calls)), plain)

    def test_nothing_is_kept(self):
        one = numbers_of(SMALL + calls_at(3, 6) + whole_view(7))
        other = numbers_of([START, ("village", 0, 9)] + calls_at(1) + whole_view(2))
        first = answers(one)
        second = answers(other)
        self.assertEqual(answers(one), first)
        self.assertEqual(answers(other), second)
        self.assertEqual(ask(START, ("clear",), ("far", 0, 1)), [[0], [-17], [-2]])

    def test_what_was_given_back_can_be_changed(self):
        calls = numbers_of(SMALL + calls_at(3, 6) + whole_view(7))
        first = answers(calls)
        kept = list(first)
        first.clear()
        self.assertEqual(answers(calls), kept)


if __name__ == "__main__":
    unittest.main()
