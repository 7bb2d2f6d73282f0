"""So many hues for each place, and shares spread to whole hues."""

from hueshare.errors import NoNumber
from hueshare.fractions import sum_of
from hueshare.hues import fewest
from hueshare.made import within
from hueshare.shares import shares
from hueshare.webs import is_rising, is_whole, need_few, need_from_to, need_web, pairs

MOST_EACH = 5


def each_so_many(web, b):
    need_web(web)
    need_from_to(1, MOST_EACH, b)
    need_few(web[0] * b)
    # Each place as a crowd of b: its b places get b hues, none of them one of a tied place's.
    crowded = fewest(within(web, (b, tuple(pairs(b)))))
    hues = crowded[1]
    rows = [tuple(sorted(hues[place * b:place * b + b])) for place in range(web[0])]
    return (crowded[0], rows)


def is_row(b, thing):
    if not isinstance(thing, tuple) or len(thing) != b:
        return False
    return all([is_whole(hue) and hue >= 0 for hue in thing]) and is_rising(thing)


def have_in_common(one, other):
    return len(set(one) & set(other)) > 0


def are_rows(web, b, rows):
    need_web(web)
    if not is_whole(b) or b < 1:
        raise NoNumber("so many hues each are one or more")
    if not isinstance(rows, list) or len(rows) != web[0] or not all([is_row(b, row) for row in rows]):
        return False
    return not any([have_in_common(rows[one], rows[other]) for one, other in web[1]])


def sets_by_hue(laying, b):
    sets = []
    for some, share in laying:
        sets.extend([some] * (share[0] * b // share[1]))
    return sets


def hues_of(sets, place):
    return [hue for hue, some in enumerate(sets) if place in some]


def spread(web):
    need_web(web)
    laying = shares(web, (1,) * web[0])[1]
    # Over this b every share is a whole number of hues.
    total = sum_of([share for some, share in laying])
    b = total[1]
    sets = sets_by_hue(laying, b)
    # A place may get more than b of them: the first b are enough.
    rows = [tuple(hues_of(sets, place)[:b]) for place in range(web[0])]
    return (total[0], b, rows)
