"""Point 5: vr_more, vr_less, vr_begin, vr_order."""

import unittest

from tests.helper import BACK, CHAIN, FULL, MOST, SMALL, START, STATE, Refusals, ask_last, calls_at, order, whole_view

ABSENT = (7, 13, 14, 2 ** 31, MOST)
FAR_NUMBERS = (7, 14, 2 ** 31 - 1, 2 ** 31, MOST)


class Unchanged(Refusals):
    def check_unchanged(self, before, *calls):
        """What is only asked leaves all as it was, what was taken back with it."""
        size = ask_last(before, STATE)[0][0]
        for ready in (before, before + [BACK]):
            self.assertEqual(ask_last(ready, *calls, *whole_view(size))[len(calls):],
                             ask_last(ready, *whole_view(size)))


class More(Unchanged):
    def test_ordinary(self):
        # The round from 0 is 14 long: 3 and 4, there and back.
        given = ask_last(SMALL + calls_at(5), *[("more", 0, v) for v in range(7)])
        self.assertEqual(given, [[0, 7], [10, 17], [0, 7], [14, 21], [24, 26], [0, 7], [26, 27]])

    def test_roads_that_are_needed_already_cost_nothing_more(self):
        given = ask_last(SMALL + calls_at(3, 5), ("more", 0, 1), ("more", 0, 4), ("more", 0, 6), ("more", 6, 4))
        self.assertEqual(given, [[0, 21], [14, 30], [16, 31], [0, 24]])

    def test_at_a_village_that_is_called_at_already(self):
        given = ask_last(SMALL + calls_at(3, 6), ("more", 0, 3), ("more", 0, 6), ("more", 5, 6), ("more", 6, 6))
        self.assertEqual(given, [[0, 17], [0, 17], [0, 24], [0, 10]])

    def test_where_one_begins(self):
        for a in range(7):
            self.assertEqual(ask_last(SMALL, ("more", a, a)), [[0, 0]])
        given = ask_last(SMALL + calls_at(3, 6), ("more", 0, 0), ("more", 5, 5), ("more", 1, 1))
        self.assertEqual(given, [[0, 17], [0, 24], [0, 12]])

    def test_no_calls(self):
        given = ask_last(SMALL, ("more", 0, 6), ("more", 6, 0), ("more", 3, 5), ("more", 2, 5))
        self.assertEqual(given, [[26, 13], [26, 13], [28, 14], [8, 4]])

    def test_the_way_may_end_elsewhere_with_it(self):
        given = ask_last(SMALL + calls_at(3), ("more", 0, 2), ("more", 0, 6), ("once", 0))
        self.assertEqual(given, [[6, 13], [16, 17], [7, 3]])

    def test_the_longest_there_can_be(self):
        self.assertEqual(ask_last(CHAIN, ("more", 0, 13), ("more", 13, 0)), [[26000, 13000], [26000, 13000]])

    def test_no_call_is_made(self):
        asked = [("more", a, v) for a in range(7) for v in range(7)]
        self.check_unchanged(SMALL + calls_at(3, 5, 1), *asked)
        self.check_unchanged(SMALL, *asked)

    def test_none(self):
        for v in ABSENT:
            self.check_refused(SMALL + calls_at(3), [("more", v, 3), ("more", 3, v), ("more", v, v)], -2)


class Less(Unchanged):
    def test_ordinary(self):
        # Without one of them the way is that to the two others.
        given = ask_last(SMALL + calls_at(3, 5, 6), ("less", 0, 3), ("less", 0, 5), ("less", 0, 6))
        self.assertEqual(given, [[4, 27], [14, 17], [16, 21]])

    def test_the_farthest(self):
        before = SMALL + calls_at(3, 5, 6)
        self.assertEqual(ask_last(before, ("last", 0), ("last", 6)), [[6, 13], [5, 20]])
        self.assertEqual(ask_last(before, ("less", 0, 6), ("less", 6, 5)), [[16, 21], [24, 10]])

    def test_on_the_way_to_others(self):
        given = ask_last(SMALL + calls_at(1, 4, 6), ("less", 0, 1), ("less", 0, 4), ("less", 6, 4))
        self.assertEqual(given, [[0, 13], [0, 13], [0, 8]])

    def test_the_only_one(self):
        given = ask_last(SMALL + calls_at(6), ("less", 0, 6), ("less", 5, 6), ("less", 6, 6))
        self.assertEqual(given, [[26, 0], [40, 0], [0, 0]])

    def test_where_one_begins(self):
        given = ask_last(SMALL + calls_at(0, 3, 6), ("less", 0, 0), ("less", 3, 3))
        self.assertEqual(given, [[0, 17], [0, 20]])

    def test_the_longest_there_can_be(self):
        self.assertEqual(ask_last(CHAIN + calls_at(13), ("less", 0, 13)), [[26000, 0]])

    def test_no_call_is_taken_away(self):
        asked = [("less", a, v) for a in range(7) for v in (1, 3, 5)]
        self.check_unchanged(SMALL + calls_at(3, 5, 1, 2), *asked)

    def test_no_call_is_to_be_made_there(self):
        before = SMALL + calls_at(3, 6)
        self.check_refused(before, [("less", 0, v) for v in (0, 1, 2, 4, 5)], -17)
        self.check_refused(SMALL, [("less", a, a) for a in range(7)], -17)
        self.check_refused(before + [("call", 3, 0)], [("less", 6, 3)], -17)

    def test_none(self):
        for v in ABSENT:
            self.check_refused(SMALL + calls_at(3), [("less", v, 3), ("less", 3, v), ("less", v, v)], -2)

    def test_the_refusal_told_first(self):
        self.check_refused(SMALL + calls_at(3), [("less", 7, 4), ("less", 4, 7), ("less", MOST, 0)], -2)


class Begin(Unchanged):
    def test_ordinary(self):
        self.assertEqual(ask_last(SMALL + calls_at(3, 5, 6), ("begin",)), [[5, 24]])
        self.assertEqual(ask_last(SMALL + calls_at(3, 6), ("begin",)), [[3, 10]])

    def test_no_calls(self):
        self.assertEqual(ask_last(SMALL, ("begin",)), [[0, 0]])
        self.assertEqual(ask_last([START], ("begin",)), [[0, 0]])
        self.assertEqual(ask_last(FULL, ("begin",)), [[0, 0]])

    def test_one_call(self):
        for v in range(7):
            self.assertEqual(ask_last(SMALL + calls_at(v), ("begin",)), [[v, 0]])

    def test_of_like_ones_the_least(self):
        self.assertEqual(ask_last(CHAIN + calls_at(3, 9, 5), ("begin",), ("once", 9)), [[3, 6000], [6000, 3]])
        given = ask_last(FULL + calls_at(12, 4, 9), ("begin",), ("once", 9), ("once", 12), ("once", 0))
        self.assertEqual(given, [[4, 4], [4, 4], [4, 4], [5, 4]])
        self.assertEqual(ask_last(FULL + calls_at(*range(14)), ("begin",)), [[1, 24]])

    def test_of_two_that_are_farthest_from_each_other_the_least(self):
        # 1 and 3 are 6 from each other, and so are 2 and 3.
        before = [START, ("village", 0, 2), ("village", 0, 2), ("village", 0, 4)]
        given = ask_last(before + calls_at(3, 2, 1), ("begin",), ("once", 2), ("once", 3), ("once", 0))
        self.assertEqual(given, [[1, 10], [10, 3], [10, 1], [12, 3]])

    def test_not_always_village_0_nor_the_least_called_at(self):
        before = SMALL + calls_at(0, 1, 5, 6)
        given = ask_last(before, ("begin",), ("once", 0), ("once", 1), ("once", 5), ("once", 6))
        self.assertEqual(given, [[5, 20], [27, 6], [28, 5], [20, 6], [20, 5]])

    def test_village_0(self):
        self.assertEqual(ask_last(SMALL + calls_at(6, 0, 4), ("begin",), ("once", 6)), [[0, 13], [13, 0]])

    def test_leaves_all_as_it_was(self):
        self.check_unchanged(SMALL + calls_at(3, 5), ("begin",), ("begin",))


class Order(Unchanged):
    def test_ordinary(self):
        before = SMALL + calls_at(3, 5, 6)
        given = ask_last(before, order(0, 3, 6, 5), order(0, 3, 5, 6), order(0, 6, 5, 3), order(5, 5, 3, 6))
        self.assertEqual(given, [[44, 0], [54, 10], [54, 10], [44, 0]])

    def test_from_elsewhere(self):
        before = SMALL + calls_at(2, 3)
        given = ask_last(before, order(6, 2, 3), order(6, 3, 2), order(1, 2, 3), order(2, 3, 2))
        self.assertEqual(given, [[36, 0], [36, 0], [20, 0], [20, 0]])

    def test_no_calls(self):
        for a in range(7):
            self.assertEqual(ask_last(SMALL, order(a), order(a, 6, 6, 6), order(a, filler=MOST)), [[0, 0]] * 3)
        self.assertEqual(ask_last([START], order(0)), [[0, 0]])

    def test_one_call(self):
        for a in range(7):
            far = ask_last(SMALL, ("far", a, 6))[0][0]
            self.assertEqual(ask_last(SMALL + calls_at(6), order(a, 6)), [[2 * far, 0]])

    def test_six_calls(self):
        before = SMALL + calls_at(1, 2, 3, 4, 5, 6)
        given = ask_last(before, order(0, 1, 3, 4, 6, 2, 5), order(0, 6, 5, 3, 2, 4, 1))
        self.assertEqual(given, [[44, 0], [13 + 20 + 14 + 10 + 15 + 7 + 5, 40]])
        before = FULL + calls_at(8, 9, 10, 11, 12, 13)
        self.assertEqual(ask_last(before, order(0, 13, 12, 11, 10, 9, 8)), [[12, 0]])
        self.assertEqual(ask_last(before, order(1, 13, 8, 9, 12, 11, 10)), [[14, 0]])

    def test_six_calls_the_longest_there_can_be(self):
        before = CHAIN + calls_at(0, 1, 2, 11, 12, 13)
        self.assertEqual(ask_last(before, order(0, 13, 0, 12, 1, 11, 2)), [[13000 * 2 + 12000 + 11000 + 10000
                                                                          + 9000 + 2000, 44000]])

    def test_seven_calls(self):
        before = SMALL + calls_at(0, 1, 2, 3, 4, 5, 6)
        rows = [order(0, 0, 1, 2, 3, 4, 5), order(6, 1, 2, 3, 4, 5, 6), order(3), order(0, filler=MOST)]
        self.check_refused(before, rows, -28)
        self.check_refused(FULL + calls_at(*range(14)), [order(13, 1, 2, 3, 4, 5, 6)], -28)

    def test_one_call_less_and_it_can_be_told(self):
        before = SMALL + calls_at(0, 1, 2, 3, 4, 5, 6) + [("call", 0, 0)]
        self.assertEqual(ask_last(before, order(0, 1, 3, 4, 6, 2, 5)), [[44, 0]])

    def test_a_village_twice(self):
        before = SMALL + calls_at(3, 5, 6)
        rows = [order(0, 3, 3, 5), order(0, 3, 5, 5), order(0, 6, 6, 6, 3, 5), order(0, 3, 5, 3, 6)]
        self.check_refused(before, rows, -22)

    def test_one_that_is_not_called_at(self):
        before = SMALL + calls_at(3, 5, 6)
        self.check_refused(before, [order(0, 3, 5, 4), order(0, 0, 3, 5, 6), order(0, 3, 5), order(0)], -22)
        for v in FAR_NUMBERS:
            self.check_refused(before, [order(0, 3, 5, v), order(0, v, 5, 6), order(0, v, v, v)], -22)
        self.check_refused(SMALL + calls_at(6), [order(0, 0, 6), order(6, 5)], -22)

    def test_one_of_six_that_does_not_fit(self):
        before = SMALL + calls_at(1, 2, 3, 4, 5, 6)
        rows = [order(0, 1, 2, 3, 4, 5, v) for v in (0, 5, 7, MOST)]
        self.check_refused(before, rows, -22)

    def test_numbers_behind_as_many_as_there_are_calls(self):
        before = SMALL + calls_at(3, 5, 6)
        rows = [order(0, 3, 6, 5, filler=v) for v in (0, 1, 3, 5, 6) + FAR_NUMBERS]
        self.assertEqual(ask_last(before, *rows), [[44, 0]] * len(rows))
        self.assertEqual(ask_last(before, order(0, 3, 6, 5, 3, 6, 5), order(0, 3, 6, 5, MOST, 0, 14)), [[44, 0]] * 2)

    def test_the_numbers_asked_behind_it_are_still_its_own(self):
        before = SMALL + calls_at(3)
        given = ask_last(before, order(0, 3, 22, 22, 22, 22, 22), ("look", 3), order(7), STATE)
        self.assertEqual(given, [[14, 0], [1, 1, 2], [-2], [7, 7, 0]])

    def test_none(self):
        before = SMALL + calls_at(3, 5, 6)
        self.check_refused(before, [order(a, 3, 5, 6) for a in ABSENT], -2)
        self.check_refused(SMALL, [order(a) for a in ABSENT], -2)

    def test_the_refusal_told_first(self):
        # All three, then two of them, in each of the ways.
        self.check_refused(SMALL + calls_at(*range(7)), [order(7, 9, 9), order(MOST, filler=MOST)], -2)
        self.check_refused(SMALL + calls_at(*range(7)), [order(7, 1, 2, 3, 4, 5, 6)], -2)
        self.check_refused(SMALL + calls_at(3, 5), [order(7, 3, 4), order(MOST, 3, 3)], -2)
        self.check_refused(SMALL + calls_at(*range(7)), [order(0, 0, 0), order(6, filler=7)], -28)

    def test_leaves_all_as_it_was(self):
        self.check_unchanged(SMALL + calls_at(3, 5, 6), order(0, 3, 5, 6), order(2, 6, 5, 3))


if __name__ == "__main__":
    unittest.main()
