"""Webs without bare rings: folds, bare rings, and the hues that a fold lays."""

from hueshare.apart import are_all_tied, greatest_crowd
from hueshare.errors import NoFold
from hueshare.webs import are_places, has_tie, need_web, neighbours, pairs, without

LEAST_BARE_RING = 4


def are_unlike_places(n, things):
    return are_places(n, things) and len(set(things)) == len(things)


def tied_among(web, place, some):
    return [other for other in some if has_tie(web, place, other)]


def first_to_go(web, left):
    for place in left:
        if are_all_tied(web, tied_among(web, place, left)):
            return place
    return None


def next_steps(web, path):
    # A step on is tied to the last place and to no other one, but perhaps to the first: there the ring shuts.
    near = neighbours(web, path[-1])
    return [place for place in near if place not in path and not tied_among(web, place, path[1:-1])]


def find_bare_ring(web):
    # Where no place can go first there is always one.
    paths = [[place] for place in range(web[0])]
    while paths:
        path = paths.pop()
        for place in next_steps(web, path):
            longer = path + [place]
            if len(path) == 1 or not has_tie(web, path[0], place):
                paths.append(longer)
            elif len(longer) >= LEAST_BARE_RING:
                return longer
    return None


def fold(web):
    need_web(web)
    order = []
    left = tuple(range(web[0]))
    while left:
        # Which one goes first is all one: what has a fold has one from each place that can go first.
        place = first_to_go(web, left)
        if place is None:
            return ("ring", find_bare_ring(web))
        order.append(place)
        left = without(left, (place,))
    return ("fold", tuple(order))


def is_fold(web, order):
    need_web(web)
    if not isinstance(order, tuple) or len(order) != web[0] or not are_unlike_places(web[0], order):
        return False
    return all([are_all_tied(web, tied_among(web, place, order[k:])) for k, place in enumerate(order)])


def is_bare_ring(web, some):
    need_web(web)
    if not isinstance(some, list) or len(some) < LEAST_BARE_RING or not are_unlike_places(web[0], some):
        return False
    steps = (1, len(some) - 1)
    return all([has_tie(web, some[i], some[j]) == (j - i in steps) for i, j in pairs(len(some))])


def hues_by_order(web, order):
    # From the back on each place meets a crowd alone: so no more hues are taken than some crowd has places.
    hues = {}
    for place in reversed(order):
        taken = [hues[other] for other in tied_among(web, place, list(hues))]
        hues[place] = min([hue for hue in range(web[0]) if hue not in taken])
    return tuple([hues[place] for place in range(web[0])])


def by_fold(web):
    told = fold(web)
    if told[0] == "ring":
        raise NoFold("the web has a bare ring")
    crowd = greatest_crowd(web)
    return (len(crowd), hues_by_order(web, told[1]), crowd)
