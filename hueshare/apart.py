"""Apart sets and crowds of a web."""

from hueshare.webs import has_tie, need_set, need_web


def count_ties_in(web, some):
    return len([tie for tie in web[1] if tie[0] in some and tie[1] in some])


def are_all_tied(web, some):
    return count_ties_in(web, some) == len(some) * (len(some) - 1) // 2


def is_apart(web, some):
    need_web(web)
    need_set(web, some)
    return count_ties_in(web, some) == 0


def is_crowd(web, some):
    need_web(web)
    need_set(web, some)
    return are_all_tied(web, some)


def places_by_tie(web, place, tied):
    return [other for other in range(web[0]) if other != place and has_tie(web, place, other) == tied]


def in_both(ones, others):
    return [place for place in ones if place in others]


def full_sets(friends):
    # friends[i] are the places that may stand in one set with i.
    # Beside each set stand all the places that can still be put to it, behind its last place and
    # ahead of it: so it is full just where none is left.
    found = [((), list(range(len(friends))))]
    for place in range(len(friends)):
        wider = [(some + (place,), in_both(left, friends[place])) for some, left in found if place in left]
        found = found + wider
    return sorted([some for some, left in found if not left])


def full_apart(web):
    need_web(web)
    return full_sets([places_by_tie(web, place, False) for place in range(web[0])])


def full_crowds(web):
    need_web(web)
    return full_sets([places_by_tie(web, place, True) for place in range(web[0])])


def first_greatest(sets):
    # Among equals max takes the one that stands first.
    return max(sets, key=len)


def greatest_apart(web):
    # A set with the most places is full, so the full ones are all there is to look at.
    return first_greatest(full_apart(web))


def greatest_crowd(web):
    return first_greatest(full_crowds(web))
