"""Point 3: vr_far, vr_between, vr_roads, vr_round, vr_once, vr_last."""

import unittest

from tests.helper import CHAIN, FULL, MOST, SMALL, START, Refusals, ask_last, calls_at

ABSENT = (7, 13, 14, 2 ** 31, MOST)
BEFORE = SMALL + calls_at(0, 5, 6)


class Far(Refusals):
    def test_ordinary(self):
        calls = [("far", 6, 5), ("far", 5, 6), ("far", 3, 4), ("far", 0, 6), ("far", 6, 0), ("far", 1, 2)]
        self.assertEqual(ask_last(SMALL, *calls), [[20], [20], [9], [13], [13], [8]])

    def test_one_village_twice(self):
        self.assertEqual(ask_last(SMALL, *[("far", v, v) for v in range(7)]), [[0]] * 7)

    def test_the_longest_there_can_be(self):
        self.assertEqual(ask_last(CHAIN, ("far", 0, 13), ("far", 13, 0)), [[13000], [13000]])

    def test_beside_each_other_under_one_up(self):
        self.assertEqual(ask_last(FULL, ("far", 13, 12), ("far", 1, 13)), [[2], [2]])

    def test_none(self):
        for v in ABSENT:
            self.check_refused(BEFORE, [("far", v, 0), ("far", 0, v), ("far", v, v)], -2)


class Between(Refusals):
    def check_way(self, before, v, w, *passed):
        told = [x + 1 for x in passed]
        expected = [len(passed)] + told + [0] * (14 - len(told))
        self.assertEqual(ask_last(before, ("between", v, w)), [expected])

    def test_ordinary(self):
        self.check_way(SMALL, 6, 5, 6, 4, 1, 0, 2, 5)
        self.check_way(SMALL, 5, 6, 5, 2, 0, 1, 4, 6)
        self.check_way(SMALL, 3, 6, 3, 1, 4, 6)
        self.check_way(SMALL, 6, 3, 6, 4, 1, 3)

    def test_straight_up_and_down(self):
        self.check_way(SMALL, 6, 0, 6, 4, 1, 0)
        self.check_way(SMALL, 0, 6, 0, 1, 4, 6)
        self.check_way(SMALL, 1, 6, 1, 4, 6)
        self.check_way(SMALL, 4, 6, 4, 6)

    def test_one_village_twice(self):
        for v in range(7):
            self.check_way(SMALL, v, v, v)

    def test_through_all_14(self):
        self.check_way(CHAIN, 0, 13, *range(14))
        self.check_way(CHAIN, 13, 0, *range(13, -1, -1))

    def test_none(self):
        for v in ABSENT:
            self.check_refused(BEFORE, [("between", v, 0), ("between", 0, v), ("between", v, v)], -2)


class Roads(Refusals):
    def test_ordinary(self):
        given = ask_last(SMALL + calls_at(3, 6), ("roads", 0), ("roads", 1), ("roads", 5), ("roads", 6))
        self.assertEqual(given, [
            [4, 0b1011010, 15], [3, 0b1011000, 10], [6, 0b1111110, 22], [3, 0b1011000, 10],
        ])

    def test_no_calls(self):
        self.assertEqual(ask_last(SMALL, *[("roads", a) for a in range(7)]), [[0, 0, 0]] * 7)

    def test_a_call_where_one_begins_and_nowhere_else(self):
        for a in range(7):
            self.assertEqual(ask_last(SMALL + calls_at(a), ("roads", a)), [[0, 0, 0]])

    def test_from_below_and_from_beside(self):
        given = ask_last(SMALL + calls_at(1), ("roads", 6), ("roads", 3), ("roads", 2), ("roads", 0))
        self.assertEqual(given, [[2, 0b1010000, 8], [1, 0b1000, 2], [2, 0b110, 8], [1, 0b10, 5]])

    def test_a_call_at_village_0(self):
        self.assertEqual(ask_last(SMALL + calls_at(0), ("roads", 5), ("roads", 0)), [[2, 0b100100, 7], [0, 0, 0]])

    def test_all_of_14_villages(self):
        bits = 2 ** 14 - 2
        self.assertEqual(ask_last(FULL + calls_at(*range(14)), ("roads", 7)), [[13, bits, 13]])
        self.assertEqual(ask_last(CHAIN + calls_at(13), ("roads", 0)), [[13, bits, 13000]])

    def test_goes_with_a_road_made_longer(self):
        self.assertEqual(ask_last(SMALL + calls_at(6), ("road", 4, 100), ("roads", 1)), [[7], [2, 0b1010000, 101]])

    def test_none(self):
        self.check_refused(BEFORE, [("roads", v) for v in ABSENT], -2)


class Round(Refusals):
    def test_ordinary(self):
        given = ask_last(SMALL + calls_at(3, 6), ("round", 0), ("round", 1), ("round", 5), ("round", 6))
        self.assertEqual(given, [[30], [20], [44], [20]])

    def test_no_calls(self):
        self.assertEqual(ask_last(SMALL, *[("round", a) for a in range(7)]), [[0]] * 7)

    def test_a_call_where_one_begins_and_nowhere_else(self):
        for a in range(7):
            self.assertEqual(ask_last(SMALL + calls_at(a), ("round", a)), [[0]])

    def test_the_longest_there_can_be(self):
        self.assertEqual(ask_last(CHAIN + calls_at(13), ("round", 0), ("round", 13)), [[26000], [0]])

    def test_none(self):
        self.check_refused(BEFORE, [("round", v) for v in ABSENT], -2)


class Once(Refusals):
    def test_ordinary(self):
        given = ask_last(SMALL + calls_at(3, 6), ("once", 0), ("once", 1), ("once", 5), ("once", 6), ("once", 3))
        self.assertEqual(given, [[17, 6], [12, 6], [24, 6], [10, 3], [10, 6]])

    def test_no_calls(self):
        self.assertEqual(ask_last(SMALL, *[("once", a) for a in range(7)]), [[0, a] for a in range(7)])

    def test_a_call_where_one_begins_and_nowhere_else(self):
        for a in range(7):
            self.assertEqual(ask_last(SMALL + calls_at(a), ("once", a)), [[0, a]])

    def test_a_call_where_one_begins_and_elsewhere(self):
        self.assertEqual(ask_last(SMALL + calls_at(6, 5), ("once", 6), ("once", 5)), [[20, 5], [20, 6]])

    def test_of_like_ones_the_least(self):
        before = [START, ("village", 0, 4), ("village", 0, 2), ("village", 2, 2), ("village", 0, 4)]
        self.assertEqual(ask_last(before + calls_at(4, 3, 1), ("once", 0)), [[20, 1]])
        self.assertEqual(ask_last(before + calls_at(4, 3), ("once", 0)), [[12, 3]])
        self.assertEqual(ask_last(before + calls_at(4, 3, 1), ("once", 3), ("once", 1)), [[16, 1], [16, 3]])
        self.assertEqual(ask_last(FULL + calls_at(*range(14)), ("once", 0), ("once", 1)), [[25, 1], [24, 2]])

    def test_the_least_may_be_village_0(self):
        before = [START, ("village", 0, 3), ("village", 1, 3)] + calls_at(2, 0)
        self.assertEqual(ask_last(before, ("once", 1)), [[9, 0]])

    def test_the_farthest_is_by_length_not_by_villages(self):
        before = [START, ("village", 0, 1), ("village", 1, 1), ("village", 0, 3)] + calls_at(2, 3)
        self.assertEqual(ask_last(before, ("once", 0)), [[7, 3]])

    def test_a_farther_village_without_a_call_is_not_it(self):
        self.assertEqual(ask_last(SMALL + calls_at(3), ("once", 0)), [[7, 3]])

    def test_none(self):
        self.check_refused(BEFORE, [("once", v) for v in ABSENT], -2)


class Last(Refusals):
    def test_ordinary(self):
        given = ask_last(SMALL + calls_at(3, 6), *[("last", a) for a in range(7)])
        self.assertEqual(given, [[6, 13], [6, 8], [6, 16], [6, 10], [3, 9], [6, 20], [3, 10]])

    def test_no_calls(self):
        self.assertEqual(ask_last(SMALL, *[("last", a) for a in range(7)]), [[a, 0] for a in range(7)])

    def test_a_call_where_one_begins_and_nowhere_else(self):
        for a in range(7):
            self.assertEqual(ask_last(SMALL + calls_at(a), ("last", a)), [[a, 0]])

    def test_a_call_where_one_begins_and_elsewhere(self):
        self.assertEqual(ask_last(SMALL + calls_at(0, 2), ("last", 0), ("last", 2)), [[2, 3], [0, 3]])

    def test_of_like_ones_the_least(self):
        before = [START, ("village", 0, 4), ("village", 0, 2), ("village", 2, 2), ("village", 0, 4)]
        self.assertEqual(ask_last(before + calls_at(4, 3, 1), ("last", 0), ("last", 1)), [[1, 4], [3, 8]])
        self.assertEqual(ask_last(before + calls_at(4, 3), ("last", 0), ("last", 1)), [[3, 4], [3, 8]])
        self.assertEqual(ask_last(before + calls_at(4), ("last", 0)), [[4, 4]])
        self.assertEqual(ask_last(FULL + calls_at(*range(14)), ("last", 0), ("last", 1)), [[1, 1], [2, 2]])

    def test_the_least_may_be_village_0(self):
        before = [START, ("village", 0, 3), ("village", 1, 3)] + calls_at(2, 0)
        self.assertEqual(ask_last(before, ("last", 1), ("last", 2), ("last", 0)), [[0, 3], [0, 6], [2, 6]])

    def test_the_farthest_is_by_length_not_by_villages(self):
        before = [START, ("village", 0, 1), ("village", 1, 1), ("village", 0, 3)] + calls_at(2, 3)
        self.assertEqual(ask_last(before, ("last", 0)), [[3, 3]])

    def test_a_farther_village_without_a_call_is_not_it(self):
        self.assertEqual(ask_last(SMALL + calls_at(3), ("last", 0)), [[3, 7]])

    def test_the_longest_there_can_be(self):
        self.assertEqual(ask_last(CHAIN + calls_at(0, 13), ("last", 0), ("last", 13)), [[13, 13000], [0, 13000]])

    def test_none(self):
        self.check_refused(BEFORE, [("last", v) for v in ABSENT], -2)


if __name__ == "__main__":
    unittest.main()
