"""The interface: one list in, one list out, nothing kept and nothing changed."""

import inspect
import unittest

from tests.helper import (
    AGAIN, BACK, MOST, ORDER, OUT_SIZES, SMALL, START, STATE, TAKES, ask, calls_at, numbers_of, order, whole_view,
)
from valleyrounds.valley import answers


class Watched(list):
    """A list that tells on whoever would change it, though it be put back later."""

    def refuse(self, *args, **named):
        raise AssertionError("what is handed in was changed")

    append = extend = insert = pop = remove = clear = sort = reverse = refuse
    __setitem__ = __delitem__ = __iadd__ = __imul__ = refuse


class Interface(unittest.TestCase):
    def test_one_parameter_by_its_name(self):
        self.assertEqual(list(inspect.signature(answers).parameters), ["calls"])
        self.assertEqual(answers(calls=[0]), [1, 0])

    def test_number_by_number(self):
        calls = [0, 1, 0, 5, 1, 1, 7, 2, 1, 6, 3, 2, 1, 5, 0, 2, 6, 2, 0, 7, 0, 8, 0, 9, 0,
                 10, 0, 1, 11, 0, 2, 12, 0, 2, 12, 0, 3, 4, 4, 0]
        expected = [1, 0, 1, 1, 1, 2, 1, 5, 1, 1, 1, 13, 15, 3, 3, 2, 1, 0, 0, 0, 0, 0, 0, 0, 0, 0, 0, 0,
                    3, 2, 6, 13, 1, 26, 2, 13, 2, 3, 1, 6, 5, 3, 2, 13, 3, 1, 13, 1, -2, 1, 1, 1, -17, 1, 0]
        self.assertEqual(answers(calls), expected)

    def test_number_by_number_of_the_second_half(self):
        calls = [0, 1, 0, 5, 1, 1, 7, 3, 1, 1, 3, 2, 1, 13, 0, 14, 0, 2, 15, 0, 2, 16, 17, 0, 1,
                 18, 0, 6, 2, 1, 9, 9, 9, 9, 18, 0, 6, 1, 1, 0, 0, 0, 0, 19, 2, 20, 21, 22, 23, 24, 23, 19, 3]
        expected = [1, 0, 1, 1, 1, 2, 1, 1, 1, 2, 2, 2, 12, 2, 0, 12, 2, 14, 5, 2, 1, 7, 2, 2, 1,
                    2, 24, 0, 1, -22, 3, 1, 1, 7, 2, 2, 6, 2, 12, 3, 1, 3, 1, 0, 3, 3, 4, 0, 1, -2, 1, -2]
        self.assertEqual(answers(calls), expected)

    def test_refusals_are_one_number(self):
        for number in range(1, 25):
            if TAKES[number]:
                row = [6] + [MOST] * 6 if number == ORDER else []
                calls = [0, number] + [MOST] * TAKES[number] + row + [8, 0]
                self.assertEqual(answers(calls), [1, 0, 1, -2, 1, 0])

    def test_counts_ahead_of_answers(self):
        for number in range(5, 25):
            row = [6] + [MOST] * 6 if number == ORDER else []
            # A call at village 0 for vr_less; a change of each side for vr_back and vr_again.
            calls = [0, 3, 0, 1, 1, 0, 1, 22, number] + [0] * TAKES[number] + row
            if number == ORDER:
                calls[-6] = 0
            given = answers(calls)
            self.assertEqual(given[:8], [1, 0, 1, 1, 1, 1, 1, 1])
            self.assertEqual(given[8], 1 + OUT_SIZES[number], number)
            self.assertEqual(len(given), 9 + given[8], number)
            self.assertGreaterEqual(given[9], 0)

    def test_whole_numbers_alone(self):
        asked = [("last", 0), ("more", 0, 3), ("less", 0, 3), ("passes", 0, 3), order(0, 3, 6), ("when", 0, 6)]
        given = answers(numbers_of(SMALL + calls_at(3, 6) + asked + whole_view(7)))
        self.assertIs(type(given), list)
        self.assertEqual({type(n) for n in given}, {int})

    def test_1000_calls(self):
        calls = SMALL + calls_at(3, 5, 6)
        calls = calls + [("between", 6, 5), ("way", 5, 3)] * ((1000 - len(calls)) // 2)
        given = ask(*calls)
        self.assertEqual(len(calls), 1000)
        self.assertEqual(len(given), 1000)
        self.assertEqual(given[-2:], [[6, 7, 5, 2, 1, 3, 6] + [0] * 8, [1, 12, 8]])

    def test_1000_calls_of_each_sort(self):
        begin = [START] + [("village", v, 1000) for v in range(13)] + calls_at(*range(8, 14))
        rounds = [order(0, 8, 9, 10, 11, 12, 13), ("begin",), ("more", 0, 3), ("less", 0, 13), ("passes", 13, 9),
                  ("road", 5, 9), STATE, BACK, AGAIN, BACK]
        calls = begin + rounds * 98
        given = ask(*calls)
        self.assertEqual(len(calls), 1000)
        self.assertEqual(len(given), 1000)
        self.assertEqual(given[20:30] * 98, given[20:])
        self.assertEqual(given[-10:], [[26000, 0], [8, 5000], [0, 13000], [2000, 12000], [2, 1],
                                       [1000], [14, 20, 0], [19], [0], [19]])

    def test_1000_changes(self):
        calls = [START, ("village", 0, 1)] + [("road", 1, 1 + k % 1000) for k in range(977)] + [BACK] * 21
        given = ask(*calls)
        self.assertEqual(len(calls), 1000)
        self.assertEqual(given[2:979], [[max(1, k)] for k in range(977)])
        self.assertEqual(given[979:], [[k] for k in range(19, -1, -1)] + [[-2]])

    def test_1000_starts(self):
        self.assertEqual(answers([0] * 1000), [1, 0] * 1000)

    def test_what_is_handed_in_stays_the_same(self):
        asked = [order(0, 6, 3), order(0, 3, 3), ("more", 0, 1), ("less", 0, 3), BACK, AGAIN]
        calls = numbers_of(SMALL + calls_at(3, 6) + asked + whole_view(7) + [("clear",), START, ("village", 9, 9)])
        before = list(calls)
        plain = answers(calls)
        self.assertEqual(calls, before)
        self.assertEqual(answers(Watched(calls)), plain)

    def test_nothing_is_kept(self):
        one = numbers_of(SMALL + calls_at(3, 6) + whole_view(7))
        other = numbers_of([START, ("village", 0, 9)] + calls_at(1) + whole_view(2))
        first = answers(one)
        second = answers(other)
        self.assertEqual(answers(one), first)
        self.assertEqual(answers(other), second)
        self.assertEqual(ask(START, ("clear",), ("far", 0, 1)), [[0], [-17], [-2]])
        self.assertEqual(ask(START, BACK, AGAIN, STATE), [[0], [-2], [-2], [1, 0, 0]])
        self.assertEqual(ask(START, ("village", 0, 2), BACK), [[0], [1], [0]])
        self.assertEqual(ask(START, AGAIN, ("sums",), ("calls",)), [[0], [-2], [0, 1], [0, 0]])

    def test_what_was_given_back_can_be_changed(self):
        calls = numbers_of(SMALL + calls_at(3, 6) + whole_view(7))
        first = answers(calls)
        kept = list(first)
        first.clear()
        self.assertEqual(answers(calls), kept)


if __name__ == "__main__":
    unittest.main()
