"""Ways through a valley, each one a list of the villages that it passes, in order.

An up is there before the villages that have a road to it, so its number is the lesser one: of two villages
beside each other the greater one is that by which their road is told.
"""


def way_between(valley, v, w):
    front = [v]
    back = [w]
    # The greater of two villages is never above the lesser one, so it can't be where the two sides meet.
    while front[-1] != back[-1]:
        if front[-1] > back[-1]:
            front.append(valley.ups[front[-1]])
        else:
            back.append(valley.ups[back[-1]])
    back.pop()
    back.reverse()
    return front + back


def roads_along(passed):
    return [max(passed[k - 1], passed[k]) for k in range(1, len(passed))]


def length_of(valley, roads):
    return sum([valley.lengths[v] for v in roads])


def length_along(valley, passed):
    return length_of(valley, roads_along(passed))


def far_between(valley, v, w):
    return length_along(valley, way_between(valley, v, w))


def far_by_stops(valley, stops):
    return sum([far_between(valley, stops[k - 1], stops[k]) for k in range(1, len(stops))])


def called_villages(valley):
    return [v for v in range(valley.size()) if valley.called[v] == 1]


def roads_needed(valley, a):
    needed = []
    for v in called_villages(valley):
        needed.extend(roads_along(way_between(valley, a, v)))
    return sorted(set(needed))


def farthest_from(valley, a):
    best = a
    best_far = 0
    for v in called_villages(valley):
        far = far_between(valley, a, v)
        # Only what is farther takes the place: of like ones the least stays, and a stays if none is away from it.
        if far > best_far:
            best = v
            best_far = far
    return best


def beside_by(valley, needed, v):
    below = [w for w in needed if valley.ups[w] == v]
    # The up has a lesser number than v, and those below have greater ones: so it comes ahead of them.
    if v in needed:
        return [valley.ups[v]] + below
    return below


def trips_from(valley, needed, v, skipped):
    passed = [v]
    for w in beside_by(valley, needed, v):
        if w not in skipped:
            passed.extend(trips_from(valley, needed, w, [v]))
            passed.append(v)
    return passed


def round_from(valley, a):
    return trips_from(valley, roads_needed(valley, a), a, [])


def round_length(valley, a):
    return length_along(valley, round_from(valley, a))


def way_from(valley, a):
    needed = roads_needed(valley, a)
    straight = way_between(valley, a, farthest_from(valley, a))
    passed = []
    # Going on toward the farthest is what comes last at a village, so all else there is gone to and back first.
    for v in straight:
        passed.extend(trips_from(valley, needed, v, straight))
    return passed


def way_length(valley, a):
    return length_along(valley, way_from(valley, a))
