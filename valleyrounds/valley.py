"""The calls on a valley, and answers, which takes them one behind another in one list.

Each call is answered as a list: the number first, then the numbers of out, if there are any. In what answers gives
back, how many numbers it has stands ahead of each of them.
"""

from valleyrounds.land import Valley
from valleyrounds.walks import called_villages, far_between, far_by_stops, farthest_from, length_along, length_of
from valleyrounds.walks import roads_needed, round_from, round_length, way_between, way_from, way_length

MOST_VILLAGES = 14
LONGEST_ROAD = 1000
MOST_IN_ORDER = 6

THERES_NONE = -2
IT_IS_SO = -17
NOT_FIT = -22
TOO_MANY = -28
NOT_HERE = -33


def road_fits(n):
    return 1 <= n <= LONGEST_ROAD


def as_bits(villages):
    return sum([1 << v for v in villages])


def vr_start(valley):
    valley.start_anew()
    return [0]


def vr_village(valley, up, far):
    if not valley.has(up):
        return [THERES_NONE]
    if not road_fits(far):
        return [NOT_FIT]
    if valley.size() == MOST_VILLAGES:
        return [TOO_MANY]
    return [valley.add_village(up, far)]


def vr_road(valley, v, n):
    if not valley.has(v):
        return [THERES_NONE]
    if not road_fits(n):
        return [NOT_FIT]
    if v == 0:
        return [NOT_HERE]
    return [valley.set_road(v, n)]


def vr_call(valley, v, o):
    if not valley.has(v):
        return [THERES_NONE]
    if o > 1:
        return [NOT_FIT]
    if valley.called[v] == o:
        return [IT_IS_SO]
    return [valley.set_call(v, o)]


def vr_clear(valley):
    if sum(valley.called) == 0:
        return [IT_IS_SO]
    return [valley.clear_calls()]


def vr_far(valley, v, w):
    if not valley.has(v) or not valley.has(w):
        return [THERES_NONE]
    return [far_between(valley, v, w)]


def vr_between(valley, v, w):
    if not valley.has(v) or not valley.has(w):
        return [THERES_NONE]
    passed = way_between(valley, v, w)
    told = [x + 1 for x in passed]
    return [len(passed)] + told + [0] * (MOST_VILLAGES - len(passed))


def vr_roads(valley, a):
    if not valley.has(a):
        return [THERES_NONE]
    needed = roads_needed(valley, a)
    return [len(needed), as_bits(needed), length_of(valley, needed)]


def vr_round(valley, a):
    if not valley.has(a):
        return [THERES_NONE]
    return [round_length(valley, a)]


def vr_once(valley, a):
    if not valley.has(a):
        return [THERES_NONE]
    passed = way_from(valley, a)
    return [length_along(valley, passed), passed[-1]]


def told_at(valley, passed, k):
    if k >= len(passed):
        return [NOT_HERE]
    return [passed[k], length_along(valley, passed[:k + 1]), len(passed)]


def vr_tour(valley, a, k):
    if not valley.has(a):
        return [THERES_NONE]
    return told_at(valley, round_from(valley, a), k)


def vr_way(valley, a, k):
    if not valley.has(a):
        return [THERES_NONE]
    return told_at(valley, way_from(valley, a), k)


def vr_when(valley, a, v):
    if not valley.has(a) or not valley.has(v):
        return [THERES_NONE]
    passed = way_from(valley, a)
    if v not in passed:
        return [NOT_HERE]
    return [length_along(valley, passed[:passed.index(v) + 1])]


def vr_last(valley, a):
    if not valley.has(a):
        return [THERES_NONE]
    farthest = farthest_from(valley, a)
    return [farthest, far_between(valley, a, farthest)]


def vr_more(valley, a, v):
    if not valley.has(a) or not valley.has(v):
        return [THERES_NONE]
    other = valley.with_call(v, 1)
    return [round_length(other, a) - round_length(valley, a), way_length(other, a)]


def vr_less(valley, a, v):
    if not valley.has(a) or not valley.has(v):
        return [THERES_NONE]
    if valley.called[v] == 0:
        return [IT_IS_SO]
    other = valley.with_call(v, 0)
    return [round_length(valley, a) - round_length(other, a), way_length(other, a)]


def vr_begin(valley):
    lengths = [way_length(valley, a) for a in range(valley.size())]
    shortest = min(lengths)
    return [lengths.index(shortest), shortest]


def vr_passes(valley, a, w):
    if not valley.has(a) or not valley.has(w):
        return [THERES_NONE]
    return [round_from(valley, a).count(w), way_from(valley, a).count(w)]


def vr_order(valley, a, villages):
    if not valley.has(a):
        return [THERES_NONE]
    called = called_villages(valley)
    if len(called) > MOST_IN_ORDER:
        return [TOO_MANY]
    order = villages[:len(called)]
    if sorted(order) != called:
        return [NOT_FIT]
    far = far_by_stops(valley, [a] + order + [a])
    return [far, far - round_length(valley, a)]


def vr_look(valley, v):
    if not valley.has(v):
        return [THERES_NONE]
    return [valley.called[v], valley.ups[v], valley.lengths[v]]


def vr_calls(valley):
    called = called_villages(valley)
    return [len(called), as_bits(called)]


def vr_sums(valley):
    return [sum(valley.lengths), valley.size()]


def vr_back(valley):
    if valley.earlier == []:
        return [THERES_NONE]
    return [valley.take_back()]


def vr_again(valley):
    if valley.later == []:
        return [THERES_NONE]
    return [valley.do_again()]


def vr_state(valley):
    return [valley.size(), len(valley.earlier), len(valley.later)]


WITH_NO_NUMBER = {
    0: vr_start,
    4: vr_clear,
    16: vr_begin,
    20: vr_calls,
    21: vr_sums,
    22: vr_back,
    23: vr_again,
    24: vr_state,
}
WITH_ONE_NUMBER = {
    7: vr_roads,
    8: vr_round,
    9: vr_once,
    13: vr_last,
    19: vr_look,
}
WITH_TWO_NUMBERS = {
    1: vr_village,
    2: vr_road,
    3: vr_call,
    5: vr_far,
    6: vr_between,
    10: vr_tour,
    11: vr_way,
    12: vr_when,
    14: vr_more,
    15: vr_less,
    17: vr_passes,
}
WITH_A_NUMBER_AND_A_ROW = {18: vr_order}


def answers(calls):
    valley = Valley()
    given = []
    at = 0
    while at < len(calls):
        number = calls[at]
        if number in WITH_NO_NUMBER:
            answer = WITH_NO_NUMBER[number](valley)
            at = at + 1
        elif number in WITH_ONE_NUMBER:
            answer = WITH_ONE_NUMBER[number](valley, calls[at + 1])
            at = at + 2
        elif number in WITH_TWO_NUMBERS:
            answer = WITH_TWO_NUMBERS[number](valley, calls[at + 1], calls[at + 2])
            at = at + 3
        else:
            behind = at + 3 + calls[at + 2]
            answer = WITH_A_NUMBER_AND_A_ROW[number](valley, calls[at + 1], calls[at + 3:behind])
            at = behind
        given.append(len(answer))
        given.extend(answer)
    return given
