"""Point 6: vr_look, vr_calls, vr_sums."""

import unittest

from tests.helper import CHAIN, FULL, MOST, SMALL, START, Refusals, ask_last, calls_at

ABSENT = (7, 13, 14, 2 ** 31, MOST)


class Look(Refusals):
    def test_ordinary(self):
        given = ask_last(SMALL + calls_at(2, 6), *[("look", v) for v in range(1, 7)])
        self.assertEqual(given, [[0, 0, 5], [1, 0, 3], [0, 1, 2], [0, 1, 7], [0, 2, 4], [1, 4, 1]])

    def test_village_0(self):
        self.assertEqual(ask_last([START], ("look", 0)), [[0, 0, 0]])
        self.assertEqual(ask_last(SMALL, ("look", 0)), [[0, 0, 0]])
        self.assertEqual(ask_last(SMALL + calls_at(0), ("look", 0)), [[1, 0, 0]])

    def test_goes_with_what_is_changed(self):
        given = ask_last(SMALL, ("road", 4, 1000), ("look", 4), ("call", 4, 1), ("look", 4), ("clear",), ("look", 4))
        self.assertEqual(given[1::2], [[0, 1, 1000], [1, 1, 1000], [0, 1, 1000]])

    def test_the_last_of_14(self):
        self.assertEqual(ask_last(CHAIN + calls_at(13), ("look", 13)), [[1, 12, 1000]])

    def test_none(self):
        self.check_refused(SMALL + calls_at(2), [("look", v) for v in ABSENT], -2)
        self.check_refused([START], [("look", v) for v in (1, 2, 13, MOST)], -2)
        self.check_refused(FULL, [("look", v) for v in (14, 15, 2 ** 31, MOST)], -2)


class Calls(unittest.TestCase):
    def test_at_the_beginning(self):
        self.assertEqual(ask_last([START], ("calls",)), [[0, 0]])
        self.assertEqual(ask_last(SMALL, ("calls",)), [[0, 0]])

    def test_ordinary(self):
        self.assertEqual(ask_last(SMALL + calls_at(6, 0, 3), ("calls",)), [[3, 0b1001001]])
        self.assertEqual(ask_last(SMALL + calls_at(1), ("calls",)), [[1, 0b10]])
        self.assertEqual(ask_last(SMALL + calls_at(0), ("calls",)), [[1, 0b1]])

    def test_each_of_14(self):
        for v in range(14):
            self.assertEqual(ask_last(FULL + calls_at(v), ("calls",)), [[1, 2 ** v]])

    def test_all_14(self):
        self.assertEqual(ask_last(FULL, ("calls",)), [[0, 0]])
        self.assertEqual(ask_last(FULL + calls_at(*range(14)), ("calls",)), [[14, 2 ** 14 - 1]])

    def test_goes_with_what_is_changed(self):
        given = ask_last(SMALL + calls_at(6, 0, 3), ("call", 0, 0), ("calls",), ("clear",), ("calls",))
        self.assertEqual(given, [[2], [2, 0b1001000], [2], [0, 0]])


class Sums(unittest.TestCase):
    def test_at_the_beginning(self):
        self.assertEqual(ask_last([START], ("sums",)), [[0, 1]])
        self.assertEqual(ask_last(SMALL + [START], ("sums",)), [[0, 1]])

    def test_ordinary(self):
        self.assertEqual(ask_last(SMALL, ("sums",)), [[22, 7]])
        self.assertEqual(ask_last([START, ("village", 0, 9)], ("sums",)), [[9, 2]])

    def test_all_roads_and_not_those_needed(self):
        self.assertEqual(ask_last(SMALL + calls_at(1), ("sums",)), [[22, 7]])

    def test_14_villages(self):
        self.assertEqual(ask_last(CHAIN, ("sums",)), [[13000, 14]])
        self.assertEqual(ask_last(FULL, ("sums",)), [[13, 14]])

    def test_goes_with_a_road_made_longer(self):
        self.assertEqual(ask_last(SMALL, ("road", 4, 1000), ("sums",)), [[7], [1015, 7]])


if __name__ == "__main__":
    unittest.main()
