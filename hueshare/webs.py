"""Webs: what is one, what is a place or a set of places of it, and which places are tied."""

from hueshare.errors import NoNumber, NoPlace, NoWeb, TooMany

MOST_PLACES = 10


def is_whole(thing):
    # Python counts True and False among its ints.
    return isinstance(thing, int) and not isinstance(thing, bool)


def is_place(n, thing):
    return is_whole(thing) and 0 <= thing < n


def are_places(n, things):
    return all([is_place(n, thing) for thing in things])


def is_rising(things):
    return all([things[k - 1] < things[k] for k in range(1, len(things))])


def is_set(n, thing):
    # Only what is known to be made of places can be compared, so rising is asked last.
    return isinstance(thing, tuple) and are_places(n, thing) and is_rising(thing)


def are_ties(n, thing):
    # A tie has its lesser place first, so it is a set of two places.
    if not isinstance(thing, tuple):
        return False
    return all([is_set(n, tie) and len(tie) == 2 for tie in thing]) and is_rising(thing)


def is_web(thing):
    if not isinstance(thing, tuple) or len(thing) != 2:
        return False
    n = thing[0]
    return is_whole(n) and 0 <= n <= MOST_PLACES and are_ties(n, thing[1])


def need_web(thing):
    if not is_web(thing):
        raise NoWeb("this is no web")


def need_place(web, thing):
    if not is_place(web[0], thing):
        raise NoPlace("this is no place of the web")


def need_set(web, thing):
    if not is_set(web[0], thing):
        raise NoPlace("this is no rising set of places of the web")


def need_from_to(least, most, thing):
    if not is_whole(thing) or not least <= thing <= most:
        raise NoNumber(f"this is no number from {least} to {most}")


def need_few(n):
    if n > MOST_PLACES:
        raise TooMany("a web has at most ten places")


def pairs(n):
    # As Python sorts: so the ties that are picked from them rise.
    found = []
    for one in range(n):
        found.extend([(one, other) for other in range(one + 1, n)])
    return found


def all_sets(n):
    # Each set stands behind all the parts of it.
    found = [()]
    for place in range(n):
        found = found + [some + (place,) for some in found]
    return found


def without(some, part):
    return tuple([place for place in some if place not in part])


def has_tie(web, one, other):
    return (min(one, other), max(one, other)) in web[1]


def are_tied(web, one, other):
    need_web(web)
    need_place(web, one)
    need_place(web, other)
    return has_tie(web, one, other)


def neighbours(web, place):
    need_web(web)
    need_place(web, place)
    return tuple([other for other in range(web[0]) if has_tie(web, place, other)])
