"""Whole hues: the fewest, and the floors that show that no fewer do."""

from hueshare.webs import all_sets, has_tie, is_set, is_whole, need_web, without


def can_stand_with(web, part, place):
    return not any([has_tie(web, other, place) for other in part])


def first_parts(web, some):
    # The apart parts of a set that have its least place: one of them is the hue of this place.
    found = [some[:1]]
    for place in some[1:]:
        found = found + [part + (place,) for part in found if can_stand_with(web, part, place)]
    return found


def highest_floor(web, floors, some):
    if not some:
        return 0
    return 1 + min([floors[without(some, part)] for part in first_parts(web, some)])


def highest_floors(web):
    floors = {}
    for some in all_sets(web[0]):
        floors[some] = highest_floor(web, floors, some)
    return floors


def best_part(web, floors, some):
    return min(first_parts(web, some), key=lambda part: floors[without(some, part)])


def hues_by_floors(web, floors):
    hues = [0] * web[0]
    left = tuple(range(web[0]))
    hue = 0
    while left:
        part = best_part(web, floors, left)
        for place in part:
            hues[place] = hue
        left = without(left, part)
        hue += 1
    return tuple(hues)


def fewest(web):
    need_web(web)
    floors = highest_floors(web)
    return (floors[tuple(range(web[0]))], hues_by_floors(web, floors), floors)


def are_hues(web, hues):
    need_web(web)
    if not isinstance(hues, tuple) or len(hues) != web[0]:
        return False
    if not all([is_whole(hue) and hue >= 0 for hue in hues]):
        return False
    return all([hues[one] != hues[other] for one, other in web[1]])


def have_all_sets(n, floors):
    # No two keys are alike: so as many sets as there are are all of them.
    if not isinstance(floors, dict) or len(floors) != len(all_sets(n)):
        return False
    return all([is_set(n, some) and is_whole(floor) for some, floor in floors.items()])


def are_floors(web, floors, number):
    need_web(web)
    if not have_all_sets(web[0], floors):
        return False
    if not all([floors[some] <= highest_floor(web, floors, some) for some in all_sets(web[0])]):
        return False
    return floors[tuple(range(web[0]))] >= number
