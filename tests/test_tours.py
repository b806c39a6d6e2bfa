"""Point 4: vr_tour, vr_way, vr_when, vr_passes."""

import unittest

from tests.helper import CHAIN, FULL, MOST, SMALL, Refusals, ask_last, calls_at

ABSENT = (7, 13, 14, 2 ** 31, MOST)


class Walked(Refusals):
    def check_walk(self, name, before, a, passed, gone):
        """Every k of a walk, and that there is none behind the last."""
        count = len(passed)
        calls = [(name, a, k) for k in range(count)]
        self.assertEqual(ask_last(before, *calls), [[passed[k], gone[k], count] for k in range(count)])
        behind = [(name, a, k) for k in (count, count + 1, 2 ** 31, MOST)]
        self.check_refused(before, behind, -33)


class Tour(Walked):
    def check_tour(self, before, a, passed, gone):
        self.check_walk("tour", before, a, passed, gone)

    def test_ordinary(self):
        passed = [0, 1, 3, 1, 4, 6, 4, 1, 0, 2, 5, 2, 0]
        gone = [0, 5, 7, 9, 16, 17, 18, 25, 30, 33, 37, 41, 44]
        self.check_tour(SMALL + calls_at(5, 6, 3), 0, passed, gone)

    def test_only_roads_that_are_needed(self):
        self.check_tour(SMALL + calls_at(4), 0, [0, 1, 4, 1, 0], [0, 5, 12, 19, 24])

    def test_no_calls(self):
        for a in range(7):
            self.check_tour(SMALL, a, [a], [0])

    def test_a_call_where_one_begins_and_nowhere_else(self):
        for a in range(7):
            self.check_tour(SMALL + calls_at(a), a, [a], [0])

    def test_the_up_comes_first_at_the_beginning(self):
        passed = [1, 0, 2, 0, 1, 3, 1, 4, 1]
        self.check_tour(SMALL + calls_at(4, 3, 2), 1, passed, [0, 5, 8, 11, 16, 18, 20, 27, 34])

    def test_the_up_comes_first_when_one_comes_from_below(self):
        passed = [6, 4, 1, 0, 1, 3, 1, 4, 6]
        self.check_tour(SMALL + calls_at(3, 0), 6, passed, [0, 1, 8, 13, 18, 20, 22, 29, 30])

    def test_from_beside(self):
        passed = [3, 1, 0, 2, 0, 1, 4, 6, 4, 1, 3]
        self.check_tour(SMALL + calls_at(6, 2), 3, passed, [0, 2, 7, 10, 13, 18, 25, 26, 27, 34, 36])

    def test_the_lesser_first_wherever_it_is(self):
        passed = [5, 0]
        for v in (1, 2, 3, 4, 6, 7, 8, 9, 10, 11, 12, 13):
            passed.extend([v, 0])
        passed.append(5)
        self.check_tour(FULL + calls_at(*range(13, -1, -1)), 5, passed, list(range(27)))

    def test_longest(self):
        passed = list(range(14)) + list(range(12, -1, -1))
        self.check_tour(CHAIN + calls_at(13), 0, passed, [1000 * k for k in range(27)])

    def test_none(self):
        before = SMALL + calls_at(5, 6)
        for a in ABSENT:
            self.check_refused(before, [("tour", a, 0), ("tour", a, 1), ("tour", a, MOST)], -2)


class Way(Walked):
    def check_way(self, before, a, passed, gone):
        self.check_walk("way", before, a, passed, gone)

    def test_ordinary(self):
        passed = [0, 2, 5, 2, 0, 1, 3, 1, 4, 6]
        self.check_way(SMALL + calls_at(5, 6, 3), 0, passed, [0, 3, 7, 11, 14, 19, 21, 23, 30, 31])

    def test_no_calls(self):
        for a in range(7):
            self.check_way(SMALL, a, [a], [0])

    def test_a_call_where_one_begins_and_nowhere_else(self):
        for a in range(7):
            self.check_way(SMALL + calls_at(a), a, [a], [0])

    def test_of_like_ones_the_least_comes_last(self):
        passed = [0]
        for v in range(2, 14):
            passed.extend([v, 0])
        passed.append(1)
        self.check_way(FULL + calls_at(*range(14)), 0, passed, list(range(26)))

    def test_calls_on_the_way_to_the_farthest(self):
        self.check_way(SMALL + calls_at(1, 4, 6), 0, [0, 1, 4, 6], [0, 5, 12, 13])

    def test_from_below(self):
        passed = [6, 4, 1, 3, 1, 0, 2, 5]
        self.check_way(SMALL + calls_at(3, 5), 6, passed, [0, 1, 8, 10, 12, 17, 20, 24])

    def test_the_up_is_first_where_the_farthest_is_below(self):
        passed = [3, 1, 0, 1, 4, 6]
        self.check_way(SMALL + calls_at(0, 6), 3, passed, [0, 2, 7, 12, 19, 20])

    def test_the_up_is_last_where_the_farthest_is_above(self):
        passed = [1, 3, 1, 4, 1, 0, 2, 5]
        self.check_way(SMALL + calls_at(3, 4, 5), 1, passed, [0, 2, 4, 11, 18, 23, 26, 30])

    def test_the_lesser_first_off_the_straight_way(self):
        before = SMALL + [("village", 5, 1), ("village", 2, 1), ("village", 5, 2)] + calls_at(9, 8, 7, 6)
        passed = [0, 2, 5, 7, 5, 9, 5, 2, 8, 2, 0, 1, 4, 6]
        self.check_way(before, 0, passed, [0, 3, 7, 8, 9, 11, 13, 17, 18, 19, 22, 27, 34, 35])

    def test_longest(self):
        self.check_way(CHAIN + calls_at(13, 0), 0, list(range(14)), [1000 * k for k in range(14)])

    def test_none(self):
        before = SMALL + calls_at(5, 6)
        for a in ABSENT:
            self.check_refused(before, [("way", a, 0), ("way", a, 1), ("way", a, MOST)], -2)


class When(Refusals):
    def test_comes_there_first(self):
        calls = [("when", 0, v) for v in range(7)]
        given = ask_last(SMALL + calls_at(5, 6, 3), *calls)
        self.assertEqual(given, [[0], [19], [3], [21], [30], [7], [31]])

    def test_where_one_begins_is_at_0(self):
        for a in range(7):
            self.assertEqual(ask_last(SMALL, ("when", a, a)), [[0]])
            self.assertEqual(ask_last(SMALL + calls_at(0, 6), ("when", a, a)), [[0]])

    def test_passes_where_no_call_is_to_be_made(self):
        self.assertEqual(ask_last(SMALL + calls_at(6), ("when", 5, 1)), [[12]])

    def test_the_way_and_not_the_round(self):
        self.assertEqual(ask_last(SMALL + calls_at(6, 2), ("when", 0, 2), ("when", 0, 1)), [[3], [11]])

    def test_does_not_pass(self):
        before = SMALL + calls_at(6)
        self.check_refused(before, [("when", 0, 2), ("when", 0, 3), ("when", 0, 5)], -33)
        self.check_refused(before, [("when", 6, v) for v in range(6)], -33)
        self.check_refused(SMALL, [("when", 0, v) for v in range(1, 7)], -33)

    def test_none(self):
        before = SMALL + calls_at(5, 6)
        for v in ABSENT:
            self.check_refused(before, [("when", v, 0), ("when", 0, v), ("when", v, v), ("when", 3, v)], -2)


class Passes(Refusals):
    def test_ordinary(self):
        # The round: 0 1 3 1 4 6 4 1 0 2 5 2 0; the way: 0 2 5 2 0 1 3 1 4 6.
        given = ask_last(SMALL + calls_at(5, 6, 3), *[("passes", 0, w) for w in range(7)])
        self.assertEqual(given, [[3, 2], [3, 2], [2, 2], [1, 1], [2, 1], [1, 1], [1, 1]])

    def test_from_below(self):
        # The round: 6 4 1 0 2 5 2 0 1 3 1 4 6; the way: 6 4 1 3 1 0 2 5.
        given = ask_last(SMALL + calls_at(3, 5), *[("passes", 6, w) for w in range(7)])
        self.assertEqual(given, [[2, 1], [3, 2], [2, 1], [1, 1], [2, 1], [1, 1], [2, 1]])

    def test_never(self):
        given = ask_last(SMALL + calls_at(4), *[("passes", 0, w) for w in (2, 3, 5, 6)])
        self.assertEqual(given, [[0, 0]] * 4)

    def test_where_one_begins(self):
        given = ask_last(SMALL + calls_at(4), ("passes", 0, 0), ("passes", 1, 1), ("passes", 4, 4))
        self.assertEqual(given, [[2, 1], [2, 1], [1, 1]])

    def test_no_calls(self):
        for a in range(7):
            given = ask_last(SMALL, *[("passes", a, w) for w in range(7)])
            self.assertEqual(given, [[int(a == w)] * 2 for w in range(7)])

    def test_a_call_where_one_begins_and_nowhere_else(self):
        for a in range(7):
            given = ask_last(SMALL + calls_at(a), *[("passes", a, w) for w in range(7)])
            self.assertEqual(given, [[int(a == w)] * 2 for w in range(7)])

    def test_most_times(self):
        before = FULL + calls_at(*range(14))
        given = ask_last(before, ("passes", 0, 0), ("passes", 0, 13), ("passes", 13, 0), ("passes", 13, 13))
        self.assertEqual(given, [[14, 13], [1, 1], [13, 12], [2, 1]])

    def test_none(self):
        before = SMALL + calls_at(5, 6)
        for v in ABSENT:
            self.check_refused(before, [("passes", v, 0), ("passes", 0, v), ("passes", v, v), ("passes", 3, v)], -2)


if __name__ == "__main__":
    unittest.main()
