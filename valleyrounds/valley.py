"""The calls on a valley, and answers, which takes them one behind another in one list.

Each call is answered as a list: the number first, then the numbers of out, if there are any. In what answers gives
back, how many numbers it has stands ahead of each of them.
"""

from valleyrounds.land import Valley
from valleyrounds.walks import length_along, length_of, roads_needed, round_from, way_between, way_from

MOST_VILLAGES = 14
LONGEST_ROAD = 1000

THERES_NONE = -2
IT_IS_SO = -17
NOT_FIT = -22
TOO_MANY = -28
NOT_HERE = -33


def road_fits(n):
    return 1 <= n <= LONGEST_ROAD


def vr_start(valley):
    valley.start_anew()
    return [0]


def vr_village(valley, up, far):
    if not valley.has(up):
        return [THERES_NONE]
    if not road_fits(far):
        return [NOT_FIT]
    if valley.size() == MOST_VILLAGES:
        return [TOO_MANY]
    return [valley.add_village(up, far)]


def vr_road(valley, v, n):
    if not valley.has(v):
        return [THERES_NONE]
    if not road_fits(n):
        return [NOT_FIT]
    if v == 0:
        return [NOT_HERE]
    return [valley.set_road(v, n)]


def vr_call(valley, v, o):
    if not valley.has(v):
        return [THERES_NONE]
    if o > 1:
        return [NOT_FIT]
    if valley.called[v] == o:
        return [IT_IS_SO]
    return [valley.set_call(v, o)]


def vr_clear(valley):
    if sum(valley.called) == 0:
        return [IT_IS_SO]
    return [valley.clear_calls()]


def vr_far(valley, v, w):
    if not valley.has(v) or not valley.has(w):
        return [THERES_NONE]
    return [length_along(valley, way_between(valley, v, w))]


def vr_between(valley, v, w):
    if not valley.has(v) or not valley.has(w):
        return [THERES_NONE]
    passed = way_between(valley, v, w)
    told = [x + 1 for x in passed]
    return [len(passed)] + told + [0] * (MOST_VILLAGES - len(passed))


def vr_roads(valley, a):
    if not valley.has(a):
        return [THERES_NONE]
    needed = roads_needed(valley, a)
    bits = sum([1 << v for v in needed])
    return [len(needed), bits, length_of(valley, needed)]


def vr_round(valley, a):
    if not valley.has(a):
        return [THERES_NONE]
    return [length_along(valley, round_from(valley, a))]


def vr_once(valley, a):
    if not valley.has(a):
        return [THERES_NONE]
    passed = way_from(valley, a)
    return [length_along(valley, passed), passed[-1]]


def told_at(valley, passed, k):
    if k >= len(passed):
        return [NOT_HERE]
    return [passed[k], length_along(valley, passed[:k + 1]), len(passed)]


def vr_tour(valley, a, k):
    if not valley.has(a):
        return [THERES_NONE]
    return told_at(valley, round_from(valley, a), k)


def vr_way(valley, a, k):
    if not valley.has(a):
        return [THERES_NONE]
    return told_at(valley, way_from(valley, a), k)


def vr_when(valley, a, v):
    if not valley.has(a) or not valley.has(v):
        return [THERES_NONE]
    passed = way_from(valley, a)
    if v not in passed:
        return [NOT_HERE]
    return [length_along(valley, passed[:passed.index(v) + 1])]


WITH_NO_NUMBER = {0: vr_start, 4: vr_clear}
WITH_ONE_NUMBER = {7: vr_roads, 8: vr_round, 9: vr_once}
WITH_TWO_NUMBERS = {
    1: vr_village,
    2: vr_road,
    3: vr_call,
    5: vr_far,
    6: vr_between,
    10: vr_tour,
    11: vr_way,
    12: vr_when,
}


def answers(calls):
    valley = Valley()
    given = []
    at = 0
    while at < len(calls):
        number = calls[at]
        if number in WITH_NO_NUMBER:
            answer = WITH_NO_NUMBER[number](valley)
            at = at + 1
        elif number in WITH_ONE_NUMBER:
            answer = WITH_ONE_NUMBER[number](valley, calls[at + 1])
            at = at + 2
        else:
            answer = WITH_TWO_NUMBERS[number](valley, calls[at + 1], calls[at + 2])
            at = at + 3
        given.append(len(answer))
        given.extend(answer)
    return given
