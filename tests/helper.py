"""What the tests share: calls written by name, valleys to start from, and a slow model to hold the answers against."""

import unittest

from valleyrounds.valley import answers

NAMES = (
    "start", "village", "road", "call", "clear", "far", "between",
    "roads", "round", "once", "tour", "way", "when",
)
TAKES = (0, 2, 2, 2, 0, 2, 2, 1, 1, 1, 2, 2, 2)
OUT_SIZES = (0, 0, 0, 0, 0, 0, 14, 2, 0, 1, 2, 2, 0)
MOST = 4294967295
START = ("start",)

# 0 - 1 (5); 0 - 2 (3); 1 - 3 (2); 1 - 4 (7); 2 - 5 (4); 4 - 6 (1)
SMALL = [
    START, ("village", 0, 5), ("village", 0, 3), ("village", 1, 2),
    ("village", 1, 7), ("village", 2, 4), ("village", 4, 1),
]
FULL = [START] + [("village", 0, 1)] * 13
CHAIN = [START] + [("village", v, 1000) for v in range(13)]


def numbers_of(calls):
    flat = []
    for call in calls:
        number = NAMES.index(call[0])
        if len(call) - 1 != TAKES[number]:
            raise ValueError(f"{call} has the wrong count of numbers")
        flat.append(number)
        flat.extend(call[1:])
    return flat


def parted(given):
    parts = []
    at = 0
    while at < len(given):
        parts.append(given[at + 1:at + 1 + given[at]])
        at += 1 + given[at]
    if at != len(given):
        raise ValueError("the last answer is shorter than its count")
    return parts


def ask(*calls):
    """The answers to a list of calls, one list each."""
    return parted(answers(numbers_of(calls)))


def ask_last(before, *calls):
    """The answers to calls made on a valley that other calls have made ready."""
    return ask(*before, *calls)[len(before):]


def calls_at(*villages):
    return [("call", v, 1) for v in villages]


def whole_view(size):
    """Calls that together show all there is of a valley with so many villages; the last ones change it."""
    calls = [("far", size, 0)]
    for v in range(size):
        calls.extend([("between", v, 0), ("far", v, 0), ("roads", v), ("round", v), ("once", v)])
        calls.extend([("way", v, 1), ("tour", v, 1)])
    return calls + [("call", v, 0) for v in range(size)] + [("village", 0, 1)]


class Refusals(unittest.TestCase):
    """Of refused calls: that they are refused, and that all is as it was behind them."""

    def check_refused(self, before, refused, answer):
        size = 1 + [call[0] for call in before].count("village")
        view = whole_view(size)
        given = ask_last(before, *refused, *view)
        self.assertEqual(given[:len(refused)], [[answer]] * len(refused), refused)
        self.assertEqual(given[len(refused):], ask_last(before, *view), refused)


class Model:
    """The document's words done slowly: every distance in a table, every way picked out of it."""

    def __init__(self):
        self.start()

    def start(self):
        self.roads = {}
        self.count = 1
        self.called = set()

    def table(self):
        far = {(v, w): 0 if v == w else 10 ** 9 for v in range(self.count) for w in range(self.count)}
        for v, (up, length) in self.roads.items():
            far[v, up] = far[up, v] = length
        for m in range(self.count):
            for v in range(self.count):
                for w in range(self.count):
                    far[v, w] = min(far[v, w], far[v, m] + far[m, w])
        return far

    def path(self, v, w):
        far = self.table()
        on_it = [x for x in range(self.count) if far[v, x] + far[x, w] == far[v, w]]
        return sorted(on_it, key=lambda x: far[v, x])

    def needed(self, a):
        far = self.table()
        found = set()
        for v, (up, length) in self.roads.items():
            for c in self.called:
                if far[a, c] in (far[a, v] + length + far[up, c], far[a, up] + length + far[v, c]):
                    found.add(v)
        return found

    def farthest(self, a):
        far = self.table()
        away = [v for v in self.called if far[a, v] > 0]
        return min(away, key=lambda v: (-far[a, v], v), default=a)

    def gone(self, villages):
        far = self.table()
        return sum(far[villages[k], villages[k + 1]] for k in range(len(villages) - 1))

    def tour(self, a, last_toward=None):
        needed = self.needed(a)
        toward = set() if last_toward is None else set(self.path(a, last_toward))
        trail = [a]
        passed = [a]
        seen = {a}
        while trail:
            here = trail[-1]
            beside = [v for v in needed if self.roads[v][0] == here]
            if here in needed:
                beside.append(self.roads[here][0])
            left = sorted((v in toward, v) for v in beside if v not in seen)
            if left:
                seen.add(left[0][1])
                trail.append(left[0][1])
            else:
                trail.pop()
            if trail:
                passed.append(trail[-1])
        return passed

    def way(self, a):
        end = self.farthest(a)
        passed = self.tour(a, end)
        return passed[:passed.index(end) + 1]

    def kth(self, villages, k):
        return [villages[k], self.gone(villages[:k + 1]), len(villages)] if k < len(villages) else [-33]

    def absent(self, *villages):
        return any(v >= self.count for v in villages)

    def answer(self, name, *n):
        if name in ("start", "clear"):
            return self.answer_bare(name)
        if self.absent(*(n if name in ("far", "between", "when") else n[:1])):
            return [-2]
        if name in ("village", "road", "call"):
            return self.answer_change(name, *n)
        return self.answer_question(name, *n)

    def answer_bare(self, name):
        if name == "start":
            self.start()
            return [0]
        were = len(self.called)
        self.called = set()
        return [were or -17]

    def answer_change(self, name, v, n):
        if name == "call":
            if n not in (0, 1):
                return [-22]
            if (v in self.called) == (n == 1):
                return [-17]
            self.called ^= {v}
            return [len(self.called)]
        if n not in range(1, 1001):
            return [-22]
        if name == "road":
            if v == 0:
                return [-33]
            up, was = self.roads[v]
            self.roads[v] = (up, n)
            return [was]
        if self.count == 14:
            return [-28]
        self.roads[self.count] = (v, n)
        self.count += 1
        return [self.count - 1]

    def answer_question(self, name, a, other=None):
        if name == "far":
            return [self.table()[a, other]]
        if name == "between":
            path = self.path(a, other)
            return [len(path)] + ([v + 1 for v in path] + [0] * 14)[:14]
        if name == "roads":
            needed = self.needed(a)
            return [len(needed), sum(2 ** v for v in needed), sum(self.roads[v][1] for v in needed)]
        if name == "round":
            return [2 * sum(self.roads[v][1] for v in self.needed(a))]
        if name == "once":
            end = self.farthest(a)
            return [2 * sum(self.roads[v][1] for v in self.needed(a)) - self.table()[a, end], end]
        if name == "tour":
            return self.kth(self.tour(a), other)
        way = self.way(a)
        if name == "way":
            return self.kth(way, other)
        return [self.gone(way[:way.index(other) + 1])] if other in way else [-33]
