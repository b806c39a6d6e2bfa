"""What holds, looked at by trying every order; and long mixed lists, held against a slow model."""

import itertools
import random
import unittest

from tests.helper import MOST, START, Model, ask, ask_last, calls_at

WRONG = (14, 1001, 2 ** 31, MOST)


def some_valley(chance, size):
    return [START] + [("village", chance.randrange(v), chance.randint(1, 9)) for v in range(1, size)]


def distances(before, size):
    pairs = [(v, w) for v in range(size) for w in range(size)]
    given = ask_last(before, *[("far", v, w) for v, w in pairs])
    return {pair: given[k][0] for k, pair in enumerate(pairs)}


def shortest(far, a, villages, comes_back):
    lengths = []
    for order in itertools.permutations(villages):
        stops = [a] + list(order) + ([a] if comes_back else [])
        lengths.append(sum(far[stops[k], stops[k + 1]] for k in range(len(stops) - 1)))
    return min(lengths)


def walk(before, name, a):
    count = ask_last(before, (name, a, 0))[0][2]
    return [answer[0] for answer in ask_last(before, *[(name, a, k) for k in range(count)])]


class Holds(unittest.TestCase):
    def check_valley(self, before, size, villages):
        far = distances(before, size)
        before = before + calls_at(*villages)
        for a in range(size):
            tour = walk(before, "tour", a)
            way = walk(before, "way", a)
            self.assertEqual(ask_last(before, ("round", a))[0][0], shortest(far, a, villages, True))
            self.assertEqual(ask_last(before, ("once", a))[0], [shortest(far, a, villages, False), way[-1]])
            self.assertTrue(set(villages) <= set(tour))
            self.assertTrue(set(villages) <= set(way))
            self.assertEqual([tour[0], tour[-1], way[0]], [a, a, a])
            self.check_each_road_twice(before, a, tour)

    def check_each_road_twice(self, before, a, tour):
        steps = sorted(zip(tour, tour[1:]))
        self.assertEqual(len(steps), len(set(steps)))
        self.assertEqual(steps, sorted((w, v) for v, w in steps))
        bits = sum(2 ** v for v in {max(step) for step in steps})
        self.assertEqual(ask_last(before, ("roads", a))[0][:2], [len(steps) // 2, bits])

    def test_shortest_of_all_orders(self):
        chance = random.Random(1)
        for turn in range(40):
            size = chance.randint(1, 9)
            villages = chance.sample(range(size), chance.randint(0, min(5, size)))
            self.check_valley(some_valley(chance, size), size, villages)

    def test_from_wherever(self):
        chance = random.Random(2)
        for turn in range(40):
            size = chance.randint(2, 14)
            villages = chance.sample(range(size), chance.randint(1, size))
            before = some_valley(chance, size) + calls_at(*villages)
            lengths = ask_last(before, *[("round", a) for a in villages])
            self.assertEqual(lengths, [lengths[0]] * len(villages))


class AgainstModel(unittest.TestCase):
    def some_call(self, chance, size):
        def village():
            return chance.choice(WRONG) if chance.random() < 0.02 else chance.randrange(size + (chance.random() < 0.05))
        name = chance.choice((
            "village", "village", "road", "call", "call", "call", "far", "between",
            "roads", "round", "once", "tour", "tour", "way", "way", "when",
        ))
        if chance.random() < 0.02:
            name = chance.choice(("start", "clear", "clear", "clear"))
        if name in ("start", "clear"):
            return (name,)
        if name in ("roads", "round", "once"):
            return (name, village())
        if name in ("far", "between", "when"):
            return (name, village(), village())
        if name in ("village", "road"):
            return (name, village(), chance.choice((0, 1, 2, 2, 3, 3, 4, 999, 1000, 1001, MOST)))
        if name == "call":
            return (name, village(), chance.choice((0, 1, 1, 1, 1, 2)))
        return (name, village(), chance.randrange(28))

    def test_long_mixed_lists(self):
        chance = random.Random(3)
        for turn in range(12):
            model = Model()
            calls = [START]
            expected = [model.answer(*START)]
            for k in range(200):
                call = self.some_call(chance, model.count)
                calls.append(call)
                expected.append(model.answer(*call))
            given = ask(*calls)
            for k, call in enumerate(calls):
                self.assertEqual(given[k], expected[k], calls[:k + 1])

    def test_every_question_on_some_valleys(self):
        chance = random.Random(4)
        for turn in range(6):
            size = chance.choice((5, 9, 14))
            villages = chance.sample(range(size), chance.randint(1, size))
            before = some_valley(chance, size) + calls_at(*villages)
            calls = [(name, a, v) for name in ("when", "between") for a in range(size) for v in range(size)]
            calls.extend([(name, a) for name in ("roads", "round", "once") for a in range(size)])
            calls.extend([(name, a, k) for name in ("tour", "way") for a in range(0, size, 3) for k in range(29)])
            model = Model()
            for call in before:
                model.answer(*call)
            for call, given in zip(calls, ask_last(before, *calls)):
                self.assertEqual(given, model.answer(*call), (before, call))


if __name__ == "__main__":
    unittest.main()
