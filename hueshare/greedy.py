"""Whole hues laid one after the other, and the prices that show how near they come to the value."""

from hueshare.apart import greatest_apart
from hueshare.fractions import lowest, sum_of
from hueshare.made import cut_down
from hueshare.webs import need_web, without


def greatest_apart_in(web, left):
    # What is cut down keeps the order of its places: so the first there is the first here.
    return tuple([left[k] for k in greatest_apart(cut_down(web, left))])


def sets_one_by_one(web):
    sets = []
    left = tuple(range(web[0]))
    while left:
        part = greatest_apart_in(web, left)
        sets.append(part)
        left = without(left, part)
    return sets


def prices_by_sets(sets, n):
    # The first set is a greatest one; without places there is none, and no price either.
    most = len(sets[0]) if sets else 1
    h = sum_of([(1, k) for k in range(1, most + 1)])
    size_at = {}
    for part in sets:
        for place in part:
            size_at[place] = len(part)
    return [lowest(h[1], h[0] * size_at[place]) for place in range(n)]


def greedy(web):
    need_web(web)
    sets = sets_one_by_one(web)
    return (sets, prices_by_sets(sets, web[0]))
