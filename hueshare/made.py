"""Webs made of others: side by side, across, within one another, the other web, and a web cut down."""

from hueshare.webs import has_tie, need_few, need_set, need_web, pairs


def moved_ties(web, by):
    return [(one + by, other + by) for one, other in web[1]]


def ties_between(n, m):
    ties = []
    for place in range(n):
        ties.extend([(place, n + k) for k in range(m)])
    return ties


def beside(one, other):
    need_web(one)
    need_web(other)
    n = one[0] + other[0]
    need_few(n)
    return (n, tuple(moved_ties(one, 0) + moved_ties(other, one[0])))


def across(one, other):
    web = beside(one, other)
    return (web[0], tuple(sorted(list(web[1]) + ties_between(one[0], other[0]))))


def is_tie_within(one, other, tie):
    m = other[0]
    i = tie[0] // m
    j = tie[1] // m
    if i == j:
        return has_tie(other, tie[0] % m, tie[1] % m)
    return has_tie(one, i, j)


def within(one, other):
    need_web(one)
    need_web(other)
    n = one[0] * other[0]
    need_few(n)
    return (n, tuple([tie for tie in pairs(n) if is_tie_within(one, other, tie)]))


def other_web(web):
    need_web(web)
    return (web[0], tuple([tie for tie in pairs(web[0]) if tie not in web[1]]))


def cut_down(web, some):
    need_web(web)
    need_set(web, some)
    kept = [(i, j) for i, j in pairs(len(some)) if has_tie(web, some[i], some[j])]
    return (len(some), tuple(kept))
