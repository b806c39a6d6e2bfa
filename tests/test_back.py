"""Points 1 and 7: changes taken back and done again; vr_back, vr_again, vr_state."""

import unittest

from tests.helper import (
    AGAIN, BACK, FULL, MOST, NAMES, SMALL, START, STATE, TAKES, Refusals, ask, ask_last, calls_at, order, still_view,
)

CALLED = SMALL + calls_at(2, 6)
# Each kind of change, with what it answers on the valley above.
KINDS = (
    (("village", 3, 8), 7),
    (("road", 4, 30), 7),
    (("call", 5, 1), 3),
    (("call", 6, 0), 1),
    (("clear",), 2),
)
REFUSED = (
    ("village", 7, 1), ("village", 0, 0), ("village", 0, 1001), ("road", 7, 1), ("road", 1, 0), ("road", 0, 1),
    ("call", 7, 1), ("call", 1, 2), ("call", 1, 0), ("call", 2, 1),
)
QUESTIONS = still_view(7) + [
    ("when", 0, 6), ("last", 0), ("more", 0, 3), ("less", 0, 6), ("passes", 0, 2), order(0, 2, 6), STATE,
]


def roads_of(*lengths):
    """A village with a road, made so long, one time after another: each one a change."""
    return [START, ("village", 0, 1)] + [("road", 1, n) for n in lengths]


class Back(Refusals):
    def test_nothing_to_take_back(self):
        self.check_refused([START], [BACK, BACK], -2)
        self.check_refused([START, ("village", 0, 3), BACK], [BACK], -2)

    def test_each_kind_of_change(self):
        for change, answer in KINDS:
            given = ask_last(CALLED, change, BACK, STATE, *still_view(8))
            self.assertEqual(given[:3], [[answer], [8], [7, 8, 1]], change)
            self.assertEqual(given[3:], ask_last(CALLED, *still_view(8)), change)

    def test_calls_at_cleared_villages_are_there_again(self):
        given = ask_last(CALLED, ("clear",), ("calls",), BACK, ("calls",))
        self.assertEqual(given, [[2], [0, 0], [8], [2, 0b1000100]])

    def test_one_after_another_the_last_first(self):
        changes = [change for change, answer in KINDS]
        given = ask_last(CALLED, *changes, *[BACK] * 5)
        self.assertEqual(given[5:], [[12], [11], [10], [9], [8]])
        for count in range(6):
            before = CALLED + changes + [BACK] * count
            fewer = CALLED + changes[:5 - count]
            self.assertEqual(ask_last(before, *still_view(8)), ask_last(fewer, *still_view(8)))

    def test_down_to_the_beginning(self):
        before = CALLED + [BACK] * 8
        self.assertEqual(ask_last(before, STATE, BACK), [[1, 0, 8], [-2]])
        self.assertEqual(ask_last(before, *still_view(1)), ask_last([START], *still_view(1)))

    def test_a_road_made_as_long_as_it_was_is_a_change(self):
        self.assertEqual(ask_last(SMALL, ("road", 4, 7), STATE, BACK, STATE), [[7], [7, 7, 0], [6], [7, 6, 1]])

    def test_the_last_20_and_no_more(self):
        for count in (19, 20, 21, 25, 60):
            before = roads_of(*range(2, count + 1))
            can = min(20, count)
            given = ask_last(before, STATE, *[BACK] * 21, STATE, ("sums",))
            self.assertEqual(given[0], [2, can, 0])
            self.assertEqual(given[1:22], [[k] for k in range(can - 1, -1, -1)] + [[-2]] * (21 - can))
            left = [[0, 1]] if count < 21 else [[count - 20, 2]]
            self.assertEqual(given[22:], [[1 if count < 21 else 2, 0, can]] + left)

    def test_a_village_taken_back_is_not_there(self):
        given = ask_last(SMALL, ("call", 6, 1), BACK, BACK, ("look", 6), ("call", 6, 1), ("village", 0, 2), ("look", 6))
        self.assertEqual(given, [[1], [6], [5], [-2], [-2], [6], [0, 0, 2]])

    def test_makes_room_for_a_14th_village(self):
        given = ask_last(FULL, ("village", 0, 1), BACK, ("village", 12, 5), ("village", 0, 1), ("look", 13))
        self.assertEqual(given, [[-28], [12], [13], [-28], [0, 12, 5]])

    def test_taking_back_is_no_change_itself(self):
        given = ask_last(roads_of(2, 3), BACK, BACK, BACK, BACK, STATE)
        self.assertEqual(given, [[2], [1], [0], [-2], [1, 0, 3]])


class Again(Refusals):
    def test_nothing_to_do_again(self):
        self.check_refused_on([START], [AGAIN, AGAIN], -2)
        self.check_refused_on(CALLED, [AGAIN], -2)
        self.check_refused_on(CALLED + [BACK, AGAIN], [AGAIN], -2)

    def test_each_kind_of_change(self):
        for change, answer in KINDS:
            given = ask_last(CALLED, change, BACK, AGAIN, STATE, *still_view(8))
            self.assertEqual(given[:3], [[answer], [8], [0]], change)
            self.assertEqual(given[3:], ask_last(CALLED, change, STATE, *still_view(8))[1:], change)

    def test_one_after_another_the_one_taken_back_last_first(self):
        changes = [change for change, answer in KINDS]
        before = CALLED + changes + [BACK] * 5
        self.assertEqual(ask_last(before, *[AGAIN] * 6), [[4], [3], [2], [1], [0], [-2]])
        for count in range(6):
            again = before + [AGAIN] * count
            self.assertEqual(ask_last(again, STATE)[0][1:], [8 + count, 5 - count])
            self.assertEqual(ask_last(again, *still_view(8)),
                             ask_last(CALLED + changes[:count], *still_view(8)))

    def test_back_and_again_in_turn(self):
        given = ask_last(roads_of(2, 3), BACK, AGAIN, BACK, BACK, AGAIN, BACK, ("sums",), AGAIN, AGAIN, ("sums",))
        self.assertEqual(given, [[2], [0], [2], [1], [1], [1], [1, 2], [1], [0], [3, 2]])

    def test_nothing_behind_another_change(self):
        for change in (("village", 3, 8), ("road", 4, 30), ("call", 5, 1), ("call", 2, 0), ("clear",)):
            given = ask_last(CALLED + [BACK], STATE, change, STATE, AGAIN, STATE)
            size = 8 if change[0] == "village" else 7
            self.assertEqual(given[0], [7, 7, 1])
            self.assertEqual(given[2:], [[size, 8, 0], [-2], [size, 8, 0]], change)

    def test_nothing_behind_the_same_change_made_once_more(self):
        given = ask_last(SMALL + calls_at(2, 6), BACK, BACK, ("call", 2, 1), AGAIN, ("calls",), STATE)
        self.assertEqual(given, [[7], [6], [1], [-2], [1, 0b100], [7, 7, 0]])

    def test_what_was_taken_back_ahead_of_another_change_is_gone(self):
        given = ask_last(roads_of(2, 3, 4), BACK, BACK, ("road", 1, 9), BACK, ("sums",), AGAIN, ("sums",), AGAIN)
        self.assertEqual(given, [[3], [2], [2], [2], [2, 2], [0], [9, 2], [-2]])

    def test_still_there_behind_a_refused_change(self):
        for refused in REFUSED:
            before = CALLED + [("road", 3, 9), BACK]
            given = ask_last(before, refused, STATE, AGAIN, ("look", 3), STATE)
            self.assertLess(given[0][0], 0)
            self.assertEqual(given[1:], [[7, 8, 1], [0], [0, 1, 9], [7, 9, 0]], refused)

    def test_still_there_behind_a_refused_clear_and_a_15th_village(self):
        given = ask_last(SMALL + calls_at(2), BACK, ("clear",), STATE, AGAIN, ("calls",))
        self.assertEqual(given, [[6], [-17], [7, 6, 1], [0], [1, 0b100]])
        given = ask_last(FULL + calls_at(2), BACK, ("village", 0, 1), STATE, AGAIN, ("calls",))
        self.assertEqual(given, [[13], [-28], [14, 13, 1], [0], [1, 0b100]])

    def test_still_there_behind_questions(self):
        given = ask_last(CALLED + [("road", 3, 9), BACK], *QUESTIONS, AGAIN, ("look", 3))
        self.assertEqual(given[-3:], [[7, 8, 1], [0], [0, 1, 9]])

    def test_still_there_behind_a_refused_vr_back_and_vr_again(self):
        given = ask_last([START, ("village", 0, 3)], BACK, BACK, BACK, AGAIN, ("sums",), AGAIN, BACK, ("sums",))
        self.assertEqual(given, [[0], [-2], [-2], [0], [3, 2], [-2], [0], [0, 1]])

    def test_all_20(self):
        before = roads_of(*range(2, 31))
        given = ask_last(before, *[BACK] * 20, STATE, ("sums",), *[AGAIN] * 20, STATE, ("sums",), AGAIN)
        counts = [[k] for k in range(19, -1, -1)]
        self.assertEqual(given[:20], counts)
        self.assertEqual(given[20:22], [[2, 0, 20], [10, 2]])
        self.assertEqual(given[22:42], counts)
        self.assertEqual(given[42:], [[2, 20, 0], [30, 2], [-2]])

    def test_all_20_step_by_step(self):
        before = roads_of(*range(2, 31))
        down = [call for k in range(20) for call in (BACK, ("sums",))]
        up = [call for k in range(20) for call in (AGAIN, ("sums",))]
        given = ask_last(before, *down, *up, *down)
        lengths = [answer[0] for answer in given[1::2]]
        self.assertEqual(lengths, list(range(29, 9, -1)) + list(range(11, 31)) + list(range(29, 9, -1)))

    def test_20_at_most_behind_some_done_again(self):
        before = roads_of(*range(2, 31)) + [BACK] * 5 + [AGAIN] * 3
        self.assertEqual(ask_last(before, STATE, ("road", 1, 7), STATE), [[2, 18, 2], [28], [2, 19, 0]])
        given = ask_last(before, *[("road", 1, n) for n in (1, 2, 3)], STATE, *[BACK] * 21, ("sums",))
        self.assertEqual(given[3:], [[2, 20, 0]] + [[k] for k in range(19, -1, -1)] + [[-2], [11, 2]])

    def test_every_change_of_a_whole_valley(self):
        before = FULL + [("road", 13, 5)] + calls_at(1, 5) + [("clear",)] + calls_at(13, 0) + [("village", 0, 1)]
        view = still_view(14)
        self.assertEqual(ask_last(before + [BACK] * 19, STATE), [[1, 0, 19]])
        self.assertEqual(ask_last(before + [BACK] * 19 + [AGAIN] * 19, STATE, *view), ask_last(before, STATE, *view))


class Start(unittest.TestCase):
    def test_nothing_to_take_back_or_do_again_behind_it(self):
        for before in (CALLED, CALLED + [BACK] * 3, roads_of(*range(2, 31)), roads_of(*range(2, 31)) + [BACK] * 20):
            given = ask_last(before, START, STATE, BACK, AGAIN, STATE, ("sums",), ("calls",))
            self.assertEqual(given, [[0], [1, 0, 0], [-2], [-2], [1, 0, 0], [0, 1], [0, 0]])

    def test_is_no_change_itself(self):
        given = ask_last(CALLED, START, ("village", 0, 3), START, BACK, ("village", 0, 4), BACK, BACK, STATE)
        self.assertEqual(given, [[0], [1], [0], [-2], [1], [0], [-2], [1, 0, 1]])

    def test_20_anew_behind_it(self):
        before = roads_of(*range(2, 31)) + roads_of(*range(2, 31))
        given = ask_last(before, STATE, *[BACK] * 21, ("sums",))
        self.assertEqual(given, [[2, 20, 0]] + [[k] for k in range(19, -1, -1)] + [[-2], [10, 2]])


class State(unittest.TestCase):
    def test_at_the_beginning(self):
        self.assertEqual(ask(START, STATE), [[0], [1, 0, 0]])

    def test_counts_changes_that_are_not_refused(self):
        self.assertEqual(ask_last(CALLED, STATE), [[7, 8, 0]])
        self.assertEqual(ask_last(CALLED, *REFUSED, STATE)[-1], [7, 8, 0])
        self.assertEqual(ask_last(SMALL, ("clear",), STATE), [[-17], [7, 6, 0]])
        self.assertEqual(ask_last(CALLED, *[change for change, answer in KINDS], STATE)[-1], [8, 13, 0])

    def test_counts_no_questions(self):
        self.assertEqual(ask_last(CALLED, *QUESTIONS)[-1], [7, 8, 0])

    def test_counts_no_question_of_any_kind(self):
        # Each call but vr_start and the changes, handed as many numbers as it takes.
        for number in range(5, 25):
            for n in (0, 2, 6, MOST):
                call = order(n, 2, 6) if NAMES[number] == "order" else (NAMES[number],) + (n,) * TAKES[number]
                if call not in (BACK, AGAIN):
                    self.assertEqual(ask_last(CALLED + [BACK], call, STATE)[1], [7, 7, 1], call)

    def test_at_most_20(self):
        counts = [ask_last(roads_of(*range(2, n + 1)), STATE)[0][1] for n in range(1, 31)]
        self.assertEqual(counts, list(range(1, 21)) + [20] * 10)

    def test_14_villages(self):
        given = ask_last(FULL, STATE, BACK, STATE, AGAIN, STATE)
        self.assertEqual(given, [[14, 13, 0], [12], [13, 12, 1], [0], [14, 13, 0]])


if __name__ == "__main__":
    unittest.main()
