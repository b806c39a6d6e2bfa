"""Points 1 and 2: vr_start, vr_village, vr_road, vr_call, vr_clear."""

import unittest

from tests.helper import FULL, MOST, SMALL, START, Refusals, ask, ask_last, calls_at, still_view, whole_view

FAR_NUMBERS = (1001, 65536, 2 ** 31 - 1, 2 ** 31, 2 ** 32 - 2, MOST)


class Start(unittest.TestCase):
    def test_answers_0(self):
        self.assertEqual(ask(START), [[0]])

    def test_there_is_village_0_and_no_other(self):
        self.assertEqual(ask_last([START], ("far", 0, 0), ("far", 0, 1), ("far", 1, 0)), [[0], [-2], [-2]])

    def test_there_are_no_calls(self):
        self.assertEqual(ask_last([START], ("clear",), ("call", 0, 0)), [[-17], [-17]])

    def test_again_in_the_middle_takes_all_away(self):
        before = SMALL + calls_at(0, 3, 6) + [START]
        view = whole_view(1) + [("call", 0, 0), ("clear",), ("village", 0, 9), ("roads", 1), ("far", 0, 1)]
        self.assertEqual(ask_last(before, *view), ask_last([START], *view))
        self.assertEqual(ask_last(before, START, ("far", 0, 0), ("round", 3)), [[0], [0], [-2]])

    def test_again_straight_away(self):
        self.assertEqual(ask(START, START, START), [[0], [0], [0]])

    def test_again_makes_room_for_14_villages(self):
        self.assertEqual(ask(*FULL, *FULL), [[v] for v in range(14)] * 2)


class Village(Refusals):
    def test_answers_its_number(self):
        self.assertEqual(ask(*SMALL), [[0], [1], [2], [3], [4], [5], [6]])

    def test_its_road_goes_to_its_up(self):
        given = ask_last(SMALL, ("far", 6, 4), ("far", 4, 1), ("between", 6, 1))
        self.assertEqual(given[:2], [[1], [7]])
        self.assertEqual(given[2], [3, 7, 5, 2] + [0] * 11)

    def test_no_call_is_to_be_made_there(self):
        self.assertEqual(ask_last(SMALL, ("call", 6, 0), ("roads", 0)), [[-17], [0, 0, 0]])

    def test_roads_of_1_and_of_1000(self):
        given = ask_last([START], ("village", 0, 1), ("village", 1, 1000), ("far", 1, 0), ("far", 2, 1))
        self.assertEqual(given, [[1], [2], [1], [1000]])

    def test_up_that_is_not_there(self):
        for up in (7, 8, 13, 14) + FAR_NUMBERS:
            self.check_refused(SMALL, [("village", up, 5)], -2)

    def test_far_that_does_not_fit(self):
        for far in (0,) + FAR_NUMBERS:
            self.check_refused(SMALL, [("village", 6, far)], -22)

    def test_14_and_no_more(self):
        self.assertEqual(ask(*FULL), [[v] for v in range(14)])
        self.check_refused(FULL + calls_at(0, 13), [("village", 0, 1)], -28)
        self.check_refused(FULL + calls_at(0, 13), [("village", 13, 1000)], -28)

    def test_the_refusal_told_first(self):
        self.check_refused(FULL, [("village", 14, 0)], -2)
        self.check_refused(FULL, [("village", 14, 1)], -2)
        self.check_refused(FULL, [("village", MOST, MOST)], -2)
        self.check_refused(FULL, [("village", 13, 0)], -22)
        self.check_refused(FULL, [("village", 0, 1001)], -22)
        self.check_refused(SMALL, [("village", 7, 1001)], -2)


class Road(Refusals):
    def test_answers_how_long_it_was(self):
        given = ask_last(SMALL, ("road", 4, 1000), ("road", 4, 1), ("road", 4, 1), ("road", 4, 2))
        self.assertEqual(given, [[7], [1000], [1], [1]])

    def test_it_is_so_long(self):
        given = ask_last(SMALL, ("road", 4, 20), ("far", 6, 0), ("far", 3, 0), ("far", 1, 4))
        self.assertEqual(given, [[7], [26], [7], [20]])

    def test_of_a_village_that_is_not_there(self):
        for v in (7, 13, 14) + FAR_NUMBERS:
            self.check_refused(SMALL, [("road", v, 5)], -2)

    def test_that_does_not_fit(self):
        for n in (0,) + FAR_NUMBERS:
            self.check_refused(SMALL, [("road", 6, n)], -22)

    def test_of_village_0(self):
        self.check_refused(SMALL, [("road", 0, 1)], -33)
        self.check_refused(SMALL, [("road", 0, 1000)], -33)

    def test_the_refusal_told_first(self):
        self.check_refused(SMALL, [("road", 7, 0)], -2)
        self.check_refused(SMALL, [("road", MOST, MOST)], -2)
        self.check_refused(SMALL, [("road", 0, 0)], -22)
        self.check_refused(SMALL, [("road", 0, 1001)], -22)


class Call(Refusals):
    def test_answers_how_many_are_to_be_made(self):
        given = ask_last(SMALL, *calls_at(3, 0, 6), ("call", 0, 0), ("call", 6, 0), ("call", 3, 0))
        self.assertEqual(given, [[1], [2], [3], [2], [1], [0]])

    def test_at_all_14(self):
        self.assertEqual(ask_last(FULL, *calls_at(*range(14))), [[v + 1] for v in range(14)])

    def test_is_made_and_is_not(self):
        given = ask_last(SMALL, ("call", 6, 1), ("roads", 0), ("call", 6, 0), ("roads", 0))
        self.assertEqual(given, [[1], [3, 0b1010010, 13], [0], [0, 0, 0]])

    def test_at_a_village_that_is_not_there(self):
        for v in (7, 13, 14) + FAR_NUMBERS:
            self.check_refused(SMALL + calls_at(3), [("call", v, 1)], -2)

    def test_o_above_1(self):
        for o in (2, 3) + FAR_NUMBERS:
            self.check_refused(SMALL + calls_at(3), [("call", 3, o)], -22)
            self.check_refused(SMALL + calls_at(3), [("call", 4, o)], -22)

    def test_it_is_so(self):
        self.check_refused(SMALL + calls_at(3), [("call", 3, 1)], -17)
        self.check_refused(SMALL + calls_at(3), [("call", 4, 0)], -17)
        self.check_refused(SMALL + calls_at(3, 4) + [("call", 3, 0)], [("call", 3, 0)], -17)

    def test_the_refusal_told_first(self):
        self.check_refused(SMALL, [("call", 7, 0)], -2)
        self.check_refused(SMALL, [("call", 7, 2)], -2)
        self.check_refused(SMALL, [("call", MOST, MOST)], -2)


class Clear(Refusals):
    def test_answers_how_many_were(self):
        self.assertEqual(ask_last(SMALL + calls_at(0, 2, 6), ("clear",)), [[3]])
        self.assertEqual(ask_last(FULL + calls_at(*range(14)), ("clear",)), [[14]])

    def test_none_are_any_more(self):
        before = SMALL + calls_at(0, 2, 6) + [("clear",)]
        view = still_view(7) + [("call", v, 0) for v in range(7)]
        self.assertEqual(ask_last(before, *view), ask_last(SMALL, *view))

    def test_none_are(self):
        self.check_refused(SMALL, [("clear",)], -17)
        self.check_refused(SMALL + calls_at(2) + [("call", 2, 0)], [("clear",)], -17)
        self.check_refused(SMALL + calls_at(0, 2) + [("clear",)], [("clear",)], -17)


if __name__ == "__main__":
    unittest.main()
