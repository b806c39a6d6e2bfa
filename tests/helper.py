"""What the tests share: calls written by name, valleys to start from, and a slow model to hold the answers against."""

import unittest

from valleyrounds.valley import answers

NAMES = (
    "start", "village", "road", "call", "clear", "far", "between",
    "roads", "round", "once", "tour", "way", "when", "last", "more", "less",
    "begin", "passes", "order", "look", "calls", "sums", "back", "again", "state",
)
# How many whole numbers a call takes; vr_order's row of 6 comes behind them.
TAKES = (0, 2, 2, 2, 0, 2, 2, 1, 1, 1, 2, 2, 2, 1, 2, 2, 0, 2, 1, 1, 0, 0, 0, 0, 0)
OUT_SIZES = (0, 0, 0, 0, 0, 0, 14, 2, 0, 1, 2, 2, 0, 1, 1, 1, 1, 1, 1, 2, 1, 1, 0, 0, 2)
ORDER = 18
MOST = 4294967295
START = ("start",)
BACK = ("back",)
AGAIN = ("again",)
STATE = ("state",)

# 0 - 1 (5); 0 - 2 (3); 1 - 3 (2); 1 - 4 (7); 2 - 5 (4); 4 - 6 (1)
SMALL = [
    START, ("village", 0, 5), ("village", 0, 3), ("village", 1, 2),
    ("village", 1, 7), ("village", 2, 4), ("village", 4, 1),
]
FULL = [START] + [("village", 0, 1)] * 13
CHAIN = [START] + [("village", v, 1000) for v in range(13)]


def order(a, *villages, filler=0):
    """A vr_order with its row filled up to 6 numbers."""
    return ("order", a, list(villages) + [filler] * (6 - len(villages)))


def numbers_of(calls):
    flat = []
    for call in calls:
        number = NAMES.index(call[0])
        plain = list(call[1:])
        row = plain.pop() if number == ORDER else None
        if len(plain) != TAKES[number]:
            raise ValueError(f"{call} has the wrong count of numbers")
        flat.extend([number] + plain)
        if row is not None:
            flat.extend([len(row)] + row)
    return flat


def parted(given):
    parts = []
    at = 0
    while at < len(given):
        parts.append(given[at + 1:at + 1 + given[at]])
        at += 1 + given[at]
    if at != len(given):
        raise ValueError("the last answer is shorter than its count")
    return parts


def ask(*calls):
    """The answers to a list of calls, one list each."""
    return parted(answers(numbers_of(calls)))


def ask_last(before, *calls):
    """The answers to calls made on a valley that other calls have made ready."""
    return ask(*before, *calls)[len(before):]


def calls_at(*villages):
    return [("call", v, 1) for v in villages]


def still_view(size):
    """Calls that together show all there is of a valley with so many villages, but for its changes."""
    calls = [("sums",), ("calls",), ("begin",), ("far", size, 0), ("look", size)]
    for v in range(size):
        calls.extend([("look", v), ("between", v, 0), ("roads", v), ("round", v), ("once", v)])
        calls.extend([("way", v, 1), ("tour", v, 1)])
    return calls


def whole_view(size):
    """The same, with the changes: those that can be done again, and the last ones that can be taken back."""
    calls = still_view(size) + [STATE]
    for step in [AGAIN] * 3 + [BACK] * 6:
        calls.extend([step, ("sums",), ("calls",), STATE])
    return calls


class Refusals(unittest.TestCase):
    """Of refused calls: that they are refused, and that all is as it was behind them."""

    def check_refused(self, before, refused, answer):
        size = ask_last(before, STATE)[0][0]
        # One change taken back ahead of the refusals: it can still be done again behind them.
        undone = [("village", 0, 1), BACK] if size < 14 else [("road", 13, 1), BACK]
        self.check_refused_on(before, refused, answer)
        self.check_refused_on(before + undone, refused, answer)

    def check_refused_on(self, before, refused, answer):
        view = whole_view(ask_last(before, STATE)[0][0])
        given = ask_last(before, *refused, *view)
        self.assertEqual(given[:len(refused)], [[answer]] * len(refused), refused)
        self.assertEqual(given[len(refused):], ask_last(before, *view), refused)


class Model:
    """The document's words done slowly: every distance in a table, every way picked out of it."""

    def __init__(self):
        self.table_roads = None
        self.start()

    def start(self):
        self.done = []
        self.undone = []
        self.can_back = 0
        self.empty()

    def empty(self):
        self.roads = {}
        self.count = 1
        self.called = set()

    def back(self):
        if not self.can_back:
            return [-2]
        self.can_back -= 1
        self.undone.append(self.done.pop())
        # All is done once more from the beginning, so nothing has to be kept of how it was.
        self.empty()
        for call in self.done:
            self.change(*call)
        return [self.can_back]

    def again(self):
        if not self.undone:
            return [-2]
        self.can_back += 1
        self.done.append(self.undone.pop())
        self.change(*self.done[-1])
        return [len(self.undone)]

    def table(self):
        # The table is slow to fill, so it is filled anew only when a road is another one.
        if self.table_roads != self.roads:
            self.table_roads = dict(self.roads)
            self.far = self.filled_table()
        return self.far

    def filled_table(self):
        far = {(v, w): 0 if v == w else 10 ** 9 for v in range(self.count) for w in range(self.count)}
        for v, (up, length) in self.roads.items():
            far[v, up] = far[up, v] = length
        for m in range(self.count):
            for v in range(self.count):
                for w in range(self.count):
                    far[v, w] = min(far[v, w], far[v, m] + far[m, w])
        return far

    def path(self, v, w):
        far = self.table()
        on_it = [x for x in range(self.count) if far[v, x] + far[x, w] == far[v, w]]
        return sorted(on_it, key=lambda x: far[v, x])

    def needed(self, a):
        far = self.table()
        found = set()
        for v, (up, length) in self.roads.items():
            for c in self.called:
                if far[a, c] in (far[a, v] + length + far[up, c], far[a, up] + length + far[v, c]):
                    found.add(v)
        return found

    def farthest(self, a):
        far = self.table()
        away = [v for v in self.called if far[a, v] > 0]
        return min(away, key=lambda v: (-far[a, v], v), default=a)

    def gone(self, villages):
        far = self.table()
        return sum(far[villages[k], villages[k + 1]] for k in range(len(villages) - 1))

    def tour(self, a, last_toward=None):
        needed = self.needed(a)
        toward = set() if last_toward is None else set(self.path(a, last_toward))
        trail = [a]
        passed = [a]
        seen = {a}
        while trail:
            here = trail[-1]
            beside = [v for v in needed if self.roads[v][0] == here]
            if here in needed:
                beside.append(self.roads[here][0])
            left = sorted((v in toward, v) for v in beside if v not in seen)
            if left:
                seen.add(left[0][1])
                trail.append(left[0][1])
            else:
                trail.pop()
            if trail:
                passed.append(trail[-1])
        return passed

    def way(self, a):
        end = self.farthest(a)
        passed = self.tour(a, end)
        return passed[:passed.index(end) + 1]

    def kth(self, villages, k):
        return [villages[k], self.gone(villages[:k + 1]), len(villages)] if k < len(villages) else [-33]

    def absent(self, *villages):
        return any(v >= self.count for v in villages)

    def once(self, a):
        return 2 * sum(self.roads[v][1] for v in self.needed(a)) - self.table()[a, self.farthest(a)]

    def round(self, a):
        return 2 * sum(self.roads[v][1] for v in self.needed(a))

    def answer(self, name, *n):
        if name in ("village", "road", "call", "clear"):
            given = self.change(name, *n)
            if given[0] >= 0:
                self.done.append((name, *n))
                self.undone = []
                self.can_back = min(20, self.can_back + 1)
            return given
        if not n:
            return self.answer_bare(name)
        if self.absent(*(n if name in ("far", "between", "when", "more", "less", "passes") else n[:1])):
            return [-2]
        return self.answer_question(name, *n)

    def answer_bare(self, name):
        if name == "start":
            self.start()
            return [0]
        if name == "begin":
            length, a = min((self.once(a), a) for a in range(self.count))
            return [a, length]
        if name == "calls":
            return [len(self.called), sum(2 ** v for v in self.called)]
        if name == "sums":
            return [sum(length for up, length in self.roads.values()), self.count]
        if name == "state":
            return [self.count, self.can_back, len(self.undone)]
        return self.back() if name == "back" else self.again()

    def change(self, name, *n):
        if name == "clear":
            were = len(self.called)
            self.called = set()
            return [were or -17]
        return [-2] if self.absent(n[0]) else self.change_village(name, *n)

    def change_village(self, name, v, n):
        if name == "call":
            if n not in (0, 1):
                return [-22]
            if (v in self.called) == (n == 1):
                return [-17]
            self.called ^= {v}
            return [len(self.called)]
        if n not in range(1, 1001):
            return [-22]
        if name == "road":
            if v == 0:
                return [-33]
            up, was = self.roads[v]
            self.roads[v] = (up, n)
            return [was]
        if self.count == 14:
            return [-28]
        self.roads[self.count] = (v, n)
        self.count += 1
        return [self.count - 1]

    def answer_question(self, name, a, other=None):
        if name in ("more", "less"):
            return self.answer_cost(name, a, other)
        if name == "order":
            return self.answer_order(a, other)
        if name == "far":
            return [self.table()[a, other]]
        if name == "between":
            path = self.path(a, other)
            return [len(path)] + ([v + 1 for v in path] + [0] * 14)[:14]
        if name == "roads":
            needed = self.needed(a)
            return [len(needed), sum(2 ** v for v in needed), sum(self.roads[v][1] for v in needed)]
        if name == "round":
            return [self.round(a)]
        if name == "once":
            return [self.once(a), self.farthest(a)]
        if name == "last":
            return [self.farthest(a), self.table()[a, self.farthest(a)]]
        if name == "look":
            return [int(a in self.called), *self.roads.get(a, (0, 0))]
        return self.answer_walk(name, a, other)

    def answer_walk(self, name, a, other):
        if name == "tour":
            return self.kth(self.tour(a), other)
        way = self.way(a)
        if name == "way":
            return self.kth(way, other)
        if name == "passes":
            return [self.tour(a).count(other), way.count(other)]
        return [self.gone(way[:way.index(other) + 1])] if other in way else [-33]

    def answer_cost(self, name, a, v):
        if name == "less" and v not in self.called:
            return [-17]
        was, before = self.called, self.round(a)
        self.called = was | {v} if name == "more" else was - {v}
        given = [abs(self.round(a) - before), self.once(a)]
        self.called = was
        return given

    def answer_order(self, a, row):
        count = len(self.called)
        if count > 6:
            return [-28]
        if set(row[:count]) != self.called:
            return [-22]
        far = self.gone([a] + row[:count] + [a])
        return [far, far - self.round(a)]
