"""What holds, looked at by trying every order; and long mixed lists, held against a slow model."""

import itertools
import random
import unittest

from tests.helper import AGAIN, BACK, MOST, NAMES, START, STATE, Model, ask, ask_last, calls_at, order, still_view

WRONG = (14, 1001, 2 ** 31, MOST)


def some_valley(chance, size):
    return [START] + [("village", chance.randrange(v), chance.randint(1, 9)) for v in range(1, size)]


def all_valleys(size):
    """Every tree of so many villages, with every road 1 or 2 long."""
    for ups in itertools.product(*[range(v) for v in range(1, size)]):
        for lengths in itertools.product((1, 2), repeat=size - 1):
            yield [START] + [("village", up, far) for up, far in zip(ups, lengths)]


def distances(before, size):
    pairs = [(v, w) for v in range(size) for w in range(size)]
    given = ask_last(before, *[("far", v, w) for v, w in pairs])
    return {pair: given[k][0] for k, pair in enumerate(pairs)}


def by_stops(far, stops):
    return sum(far[stops[k], stops[k + 1]] for k in range(len(stops) - 1))


def shortest_round(far, a, villages):
    return min(by_stops(far, [a, *some, a]) for some in itertools.permutations(villages))


def shortest_way(far, a, villages):
    return min(by_stops(far, [a, *some]) for some in itertools.permutations(villages))


def walk(before, name, a):
    count = ask_last(before, (name, a, 0))[0][2]
    return [answer[0] for answer in ask_last(before, *[(name, a, k) for k in range(count)])]


class Holds(unittest.TestCase):
    def check_valley(self, before, size, villages):
        far = distances(before, size)
        before = before + calls_at(*villages)
        shortest = []
        for a in range(size):
            tour = walk(before, "tour", a)
            way = walk(before, "way", a)
            shortest.append(shortest_way(far, a, villages))
            once, last, back = ask_last(before, ("once", a), ("last", a), ("round", a))
            self.assertEqual(back, [shortest_round(far, a, villages)])
            self.assertEqual([by_stops(far, tour), by_stops(far, way)], [back[0], once[0]])
            self.assertEqual(once, [shortest[a], way[-1]])
            self.assertEqual(last, [way[-1], max([far[a, v] for v in villages], default=0)])
            self.assertTrue(set(villages) <= set(tour))
            self.assertTrue(set(villages) <= set(way))
            self.assertEqual([tour[0], tour[-1], way[0]], [a, a, a])
            self.check_each_road_twice(before, a, tour)
        self.assertEqual(ask_last(before, ("begin",)), [[shortest.index(min(shortest)), min(shortest)]])

    def check_each_road_twice(self, before, a, tour):
        steps = sorted(zip(tour, tour[1:]))
        self.assertEqual(len(steps), len(set(steps)))
        self.assertEqual(steps, sorted((w, v) for v, w in steps))
        bits = sum(2 ** v for v in {max(step) for step in steps})
        self.assertEqual(ask_last(before, ("roads", a))[0][:2], [len(steps) // 2, bits])

    def check_orders(self, before, size, villages, a):
        far = distances(before, size)
        before = before + calls_at(*villages)
        orders = list(itertools.permutations(villages))
        back = ask_last(before, ("round", a))[0][0]
        given = ask_last(before, *[order(a, *some, filler=MOST) for some in orders])
        for some, answer in zip(orders, given):
            self.assertEqual(answer, [by_stops(far, [a, *some, a]), by_stops(far, [a, *some, a]) - back])
            self.assertGreaterEqual(answer[1], 0)
        self.assertEqual(min(given), [back, 0])

    def test_every_small_valley(self):
        for size in range(1, 5):
            for before in all_valleys(size):
                for bits in range(2 ** size):
                    self.check_valley(before, size, [v for v in range(size) if bits >> v & 1])

    def test_shortest_of_all_orders(self):
        chance = random.Random(1)
        for turn in range(40):
            size = chance.randint(5, 9)
            villages = chance.sample(range(size), chance.randint(0, 5))
            self.check_valley(some_valley(chance, size), size, villages)

    def test_in_some_order_on_every_small_valley(self):
        for before in all_valleys(4):
            for count in range(5):
                self.check_orders(before, 4, range(count), 3)
                self.check_orders(before, 4, range(4 - count, 4), 0)

    def test_in_some_order_of_up_to_6(self):
        chance = random.Random(5)
        for count in (0, 1, 2, 3, 4, 5, 5, 6, 6, 6):
            size = chance.randint(max(count, 2), 14)
            villages = chance.sample(range(size), count)
            self.check_orders(some_valley(chance, size), size, villages, chance.randrange(size))

    def test_from_wherever(self):
        chance = random.Random(2)
        for turn in range(80):
            size = chance.randint(2, 14)
            villages = chance.sample(range(size), chance.randint(1, size))
            before = some_valley(chance, size) + calls_at(*villages)
            lengths = ask_last(before, *[("round", a) for a in villages])
            self.assertEqual(lengths, [lengths[0]] * len(villages))
            for a, answer in enumerate(ask_last(before, *[("round", a) for a in range(size)])):
                self.assertGreaterEqual(answer, lengths[0], a)

    def test_one_call_more_lengthens_by_no_more(self):
        chance = random.Random(6)
        for turn in range(40):
            size = chance.randint(2, 14)
            before = some_valley(chance, size)
            a = chance.randrange(size)
            asked = [("more", a, v) for v in range(size)]
            costs = [answer[0] for answer in ask_last(before, *asked)]
            for v in chance.sample(range(size), size):
                before = before + calls_at(v)
                now = [answer[0] for answer in ask_last(before, *asked)]
                self.assertTrue(all(new <= old for new, old in zip(now, costs)), (before, a))
                self.assertEqual(now[v], 0)
                costs = now

    def test_more_and_less_are_what_comes_of_it(self):
        chance = random.Random(7)
        for turn in range(40):
            size = chance.randint(1, 14)
            before = some_valley(chance, size) + calls_at(*chance.sample(range(size), chance.randint(0, size)))
            a = chance.randrange(size)
            asked = [("round", a), ("once", a)]
            for v in range(size):
                is_so = ask_last(before, ("look", v))[0][0]
                was, way, cost = ask_last(before, *asked, ("less" if is_so else "more", a, v))
                now, way = ask_last(before, ("call", v, 1 - is_so), *asked)[1:]
                self.assertEqual(cost, [abs(now[0] - was[0]), way[0]])
                self.assertEqual(now[0] < was[0], is_so == 1 and cost[0] > 0)

    def test_all_can_be_taken_back_and_done_again(self):
        chance = random.Random(8)
        for turn in range(10):
            calls = [START]
            states = [ask_last(calls, *still_view(14))]
            model = Model()
            while len(states) < 40:
                call = some_change(chance, model.count)
                if model.answer(*call)[0] >= 0:
                    calls.append(call)
                    states.append(ask_last(calls, *still_view(14)))
            for steps in range(21):
                calls_back = calls + [BACK] * steps
                self.assertEqual(ask_last(calls_back, *still_view(14)), states[-1 - steps], calls_back)
            for steps in range(21):
                calls_again = calls + [BACK] * 20 + [AGAIN] * steps
                self.assertEqual(ask_last(calls_again, *still_view(14)), states[-21 + steps], calls_again)


def some_village(chance, size):
    if chance.random() < 0.02:
        return chance.choice(WRONG)
    return chance.randrange(size + (chance.random() < 0.05))


def some_change(chance, size):
    name = chance.choice(("village", "village", "road", "call", "call", "call"))
    if chance.random() < 0.03:
        return ("clear",)
    if name == "call":
        return (name, some_village(chance, size), chance.choice((0, 1, 1, 1, 1, 2)))
    return (name, some_village(chance, size), chance.choice((0, 1, 2, 2, 3, 3, 4, 999, 1000, 1001, MOST)))


def some_question(chance, model):
    name = chance.choice(NAMES[5:])
    a, v = (some_village(chance, model.count) for k in range(2))
    if name == "order":
        row = chance.sample(sorted(model.called), len(model.called))[:6]
        if row and chance.random() < 0.3:
            row[chance.randrange(len(row))] = v
        return order(a, *row, filler=chance.choice((0, v, MOST)))
    if name in ("roads", "round", "once", "last", "look"):
        return (name, a)
    if name in ("tour", "way"):
        return (name, a, chance.randrange(chance.choice((4, 28))))
    if name in ("begin", "calls", "sums", "back", "again", "state"):
        return (name,)
    return (name, a, v)


class AgainstModel(unittest.TestCase):
    def check_against_model(self, calls):
        model = Model()
        for k, (call, answer) in enumerate(zip(calls, ask(*calls))):
            self.assertEqual(answer, model.answer(*call), calls[:k + 1])

    def some_call(self, chance, model):
        kind = chance.random()
        if kind < 0.003:
            return START
        if kind < 0.1:
            return chance.choice((BACK, AGAIN))
        return some_change(chance, model.count) if kind < 0.4 else some_question(chance, model)

    def test_long_mixed_lists(self):
        chance = random.Random(3)
        for turn in range(16):
            model = Model()
            size = chance.randint(1, 14)
            calls = some_valley(chance, size) + calls_at(*chance.sample(range(size), chance.randint(0, size)))
            for call in calls:
                model.answer(*call)
            for k in range(200):
                calls.append(self.some_call(chance, model))
                model.answer(*calls[-1])
            self.check_against_model(calls)

    def test_changes_back_and_again(self):
        chance = random.Random(9)
        for turn in range(20):
            model = Model()
            calls = [START]
            # Runs of one sort, so that often more than 20 stand one behind another.
            while len(calls) < 300:
                sort = chance.choice((None, None, BACK, AGAIN))
                for k in range(chance.randint(1, 30)):
                    call = sort or some_change(chance, model.count)
                    model.answer(*call)
                    calls.extend([call, STATE, ("sums",), ("calls",)])
            self.check_against_model(calls)

    def test_every_question_on_some_valleys(self):
        chance = random.Random(4)
        for turn in range(6):
            size = chance.choice((5, 9, 14))
            villages = chance.sample(range(size), chance.randint(1, size))
            before = some_valley(chance, size) + calls_at(*villages)
            calls = [("begin",), ("calls",), ("sums",), STATE]
            calls.extend([(name, a, v) for name in ("when", "passes", "more", "less")
                          for a in range(0, size, 2) for v in range(size)])
            calls.extend([("between", v, w) for v in range(size) for w in range(size)])
            calls.extend([(name, a) for name in ("roads", "round", "once", "last", "look") for a in range(size)])
            calls.extend([(name, a, k) for name in ("tour", "way") for a in range(0, size, 3) for k in range(29)])
            self.check_against_model(before + calls)


if __name__ == "__main__":
    unittest.main()
