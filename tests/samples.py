"""Webs to test with, things that are none, and plain looks to hold the answers against."""

from itertools import combinations
from random import Random


def pairs(places):
    return combinations(places, 2)


def loose(n):
    return (n, ())


def whole(n):
    return (n, tuple(pairs(range(n))))


def ring(n):
    return (n, tuple(sorted(tuple(sorted((i, (i + 1) % n))) for i in range(n))))


def path(n):
    return (n, tuple((i, i + 1) for i in range(n - 1)))


def mixed(n, m, r):
    return (n, tuple((i, j) for i, j in pairs(range(n)) if (i * i + 3 * j + i * j) % m < r))


def petersen():
    picks = list(combinations(range(5), 2))
    return (10, tuple((i, j) for i, j in pairs(range(10)) if not set(picks[i]) & set(picks[j])))


def all_webs(n):
    ties = list(pairs(range(n)))
    return [(n, some) for k in range(len(ties) + 1) for some in combinations(ties, k)]


def small_webs():
    return [web for n in range(5) for web in all_webs(n)]


def ten_place_webs():
    webs = [loose(10), whole(10), ring(10), path(10), petersen()]
    return webs + [mixed(10, m, r) for m in (3, 5, 7) for r in range(1, m)]


def renamed(web, names):
    return (web[0], tuple(sorted(tuple(sorted((names[i], names[j]))) for i, j in web[1])))


def drawn_webs(sizes, seed):
    # Each size with few, some and many ties; drawn alike each time.
    chance = Random(seed)
    webs = []
    for n in sizes:
        for part in range(1, 10):
            webs.append((n, tuple(tie for tie in pairs(range(n)) if chance.randrange(10) < part)))
    return webs


def folded_webs(sizes, seed):
    # Each place put is tied to a crowd, so there is no bare ring; then the places are named anew.
    chance = Random(seed)
    webs = []
    for n in sizes:
        for most in range(n):
            ties = []
            for place in range(n):
                tied = []
                for other in chance.sample(range(place), place):
                    if len(tied) < most and all(tuple(sorted((other, third))) in ties for third in tied):
                        tied.append(other)
                ties.extend((other, place) for other in tied)
            webs.append(renamed((n, tuple(ties)), chance.sample(range(n), n)))
    return webs


def some_webs():
    rings = [ring(n) for n in range(3, 10)]
    others = [make(n) for make in (loose, whole, path) for n in range(1, 10)]
    fives = [mixed(n, 7, r) for n in (5, 7, 8) for r in range(1, 7)]
    return [(0, ())] + rings + others + fives + ten_place_webs()


# Each makes its things anew, so that no test can spoil them for another one.
def no_webs():
    return [
        # numbers of places that are none
        (11, ()), (11, ((0, 1),)), (12, ()), (-1, ()), (-10, ()), (10 ** 30, ()), (-10 ** 30, ()),
        (True, ()), (False, ()), (None, ()), ("", ()), ("2", ()), ((), ()), ((2,), ()), ([2], ()), ([], ()),
        ({}, ()), ({2: 2}, ()),
        # ties that are none
        (2, ((1, 0),)), (2, ((0, 0),)), (2, ((1, 1),)), (2, ((0, 2),)), (2, ((2, 3),)), (2, ((-1, 0),)),
        (2, ((-1, 1),)), (2, ((0, 10 ** 30),)), (2, ((-10 ** 30, 1),)), (1, ((0, 1),)), (0, ((0, 1),)),
        (10, ((0, 10),)), (10, ((9, 10),)), (10, ((9, 9),)), (3, ((0, 1), (2, 1))), (3, ((0, 1), (0, 3))),
        (2, ((0, True),)), (2, ((False, 1),)), (2, ((False, True),)), (3, ((True, 2),)),
        (3, ((0, 1), (True, 2))), (2, ((0, None),)), (2, ((None, 1),)), (2, ((0, "1"),)), (2, (("0", "1"),)),
        (2, (((0,), 1),)), (2, ((0, (1,)),)), (2, ((0, [1]),)), (2, ((0, {}),)), (2, (((0, 1),),)),
        # tuples of too few or too many
        (2, ((),)), (2, ((0,),)), (2, ((1,),)), (3, ((0, 1, 2),)), (3, ((0, 1), (1,))), (3, ((0, 1), (0, 1, 2))),
        (3, ((0, 1), ())), (0, ((),)), (1, ((0,),)), (), (2,), ((),), (2, (), ()), (2, ((0, 1),), ((0, 1),)),
        (3, (0, 1), (1, 2)), (2, (0, 1), None), ((2, ()),), ((2, ()), (2, ())),
        # ties that don't rise
        (3, ((0, 2), (0, 1))), (3, ((1, 2), (0, 1))), (3, ((1, 2), (0, 2))), (4, ((0, 1), (2, 3), (1, 2))),
        (2, ((0, 1), (0, 1))), (3, ((0, 1), (1, 2), (1, 2))), (3, ((0, 1), (0, 1), (1, 2))),
        # other things in the place of a tie or of the ties
        (2, (0, 1)), (2, (0,)), (2, (None,)), (2, (True,)), (2, ("",)), (2, ("01",)), (2, ({},)),
        (2, ({0: 1, 1: 0},)), (2, ([],)), (2, ([0, 1],)), (3, ((0, 1), [1, 2])), (3, ([0, 1], (1, 2))),
        (3, ((0, 1), None)), (3, ((0, 1), 2)), (3, ((0, 1), "12")), (3, (None, (0, 1))),
        (2, []), (0, []), (2, [(0, 1)]), (2, [[0, 1]]), (2, {}), (0, {}), (2, {(0, 1): True}), (2, None), (2, 0),
        (2, True), (0, False), (2, ""), (0, ""), (2, "01"), (2, "0-1"),
        # other things altogether
        [], [0, ()], [2, ((0, 1),)], [2, [[0, 1]]], {}, {0: ()}, {0: 0, 1: ()}, {"n": 2, "ties": ()}, "", "ab",
        "places 2; 0-1", None, True, False, 0, 1, 10, -1, 10 ** 30,
        # things within one another
        ((((((),),),),),), [[[[[[]]]]]], {0: {0: {0: {0: {0: {}}}}}}, (2, ((((0, 1),),),)), (2, (((((0,),),),),)),
        ({"a": [(None, {"b": "c"})]}, [{1: ((True,),)}]), (3, ((0, 1), ([{0: (1,)}], 2))),
    ]


def no_places(n):
    return [
        -1, n, n + 1, 11, -n - 1, 10 ** 30, -10 ** 30, True, False, None, "", "0", "1", (), (0,), (0, 1), [], [0],
        {}, {0: 0}, ((((((),),),),),),
    ]


def no_sets(n):
    return [
        # places that are none, alone and behind or ahead of good ones
        (n,), (-1,), (n + 1,), (0, n), (-1, 0), (-1, n), (0, 10 ** 30), (-10 ** 30, 0), (10 ** 30,),
        (True,), (False,), (0, True), (False, 1), (False, True), (None,), (0, None), ("",), ("0",), (0, "1"),
        ((),), ((0,),), (0, (1,)), ([],), (0, [1]), ({},), (0, {}),
        # not rising
        (1, 0), (0, 2, 1), (1, 2, 0), (0, 0), (0, 1, 1), (0, 0, 1), (0, 1, 0), tuple(range(n)) + (n - 1,),
        # no tuples
        [], [0], [0, 1], {}, {0: 1}, "", "0", "01", None, True, False, 0, 1, -1, 10 ** 30, [[[[[[]]]]]],
    ]


def no_wants(n):
    good = (1,) * n
    wrong = [-1, 100, 101, -10 ** 30, 10 ** 30, True, False, None, "", "1", (), (1,), (1, 1), [], [1], {}, {1: 1}]
    return [good + (1,), good + (0,), good + (1, 1), good[1:] if n else (0,), good[2:] if n > 1 else (0, 0)] + [
        good[:k] + (thing,) + good[k + 1:] for thing in wrong for k in range(n)
    ] + [
        list(good), [], [1], [0] * n, {}, {0: 1}, dict.fromkeys(range(n), 1), "", "1" * n, None, True, False, 0, 1, n,
        -1, 10 ** 30, (good,), [good], (list(good),), [[[[[[]]]]]], ((((((),),),),),),
    ]


def no_fractions():
    return [
        (0, 0), (1, 0), (-1, 1), (-1, 2), (-10 ** 30, 1), (1, -1), (0, -1), (-1, -1), (1, -2), (1, 10 ** 9 + 1),
        (0, 10 ** 9 + 1), (10 ** 9, 10 ** 9 + 1), (1, 10 ** 30), (True, 1), (False, 1), (1, True), (True, True),
        (0, True), (None, 1), (1, None), (None, None), ("1", 1), (1, "2"), ("1", "2"), ((1,), 2), (1, (2,)),
        ((2, 1), (1, 2)), ([1], 2), (1, [2]), ({}, 1), (1, {}), (), (1,), (1, 2, 3), (1, 1, 1), (0, 1, 1), ((1, 2),),
        [], [1, 2], [1, 1], {}, {1: 2}, {0: 1, 1: 2}, "", "1", "12", "1/2", None, True, False, 0, 1, -1, 10 ** 30,
        ((((((),),),),),), [[[[[[]]]]]],
    ]


def sets_of(n):
    return sorted(some for k in range(n + 1) for some in combinations(range(n), k))


def plainly_tied(web, one, other):
    return (one, other) in web[1] or (other, one) in web[1]


def plainly_apart(web, some):
    return not any(plainly_tied(web, one, other) for one, other in pairs(some))


def plainly_crowd(web, some):
    return all(plainly_tied(web, one, other) for one, other in pairs(some))


def plainly_full(web, holds):
    good = [some for some in sets_of(web[0]) if holds(web, some)]
    inside = {some[:k] + some[k + 1:] for some in good for k in range(len(some))}
    return [some for some in good if some not in inside]


def plainly_greatest(web, holds):
    good = [some for some in sets_of(web[0]) if holds(web, some)]
    most = max(len(some) for some in good)
    return min(some for some in good if len(some) == most)
