"""Webs of a shape: rings, picks, and a web grown."""

from hueshare.apart import in_both
from hueshare.made import moved_ties
from hueshare.webs import MOST_PLACES, all_sets, need_few, need_from_to, need_web, pairs

LEAST_RING = 3


def ring(n):
    need_from_to(LEAST_RING, MOST_PLACES, n)
    around = [(place, place + 1) for place in range(n - 1)] + [(0, n - 1)]
    return (n, tuple(sorted(around)))


def picks(m, k):
    need_from_to(1, MOST_PLACES, m)
    need_from_to(1, m, k)
    picked = sorted([some for some in all_sets(m) if len(some) == k])
    n = len(picked)
    need_few(n)
    return (n, tuple([(i, j) for i, j in pairs(n) if not in_both(picked[i], picked[j])]))


def grown(web):
    need_web(web)
    n = web[0]
    need_few(2 * n + 1)
    ties = moved_ties(web, 0)
    ties.extend([(one, n + other) for one, other in web[1]])
    ties.extend([(other, n + one) for one, other in web[1]])
    ties.extend([(n + place, 2 * n) for place in range(n)])
    return (2 * n + 1, tuple(sorted(ties)))
