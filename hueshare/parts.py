"""Needed places, and parts of a web that have its value."""

from hueshare.fractions import is_less
from hueshare.made import cut_down
from hueshare.shares import value
from hueshare.webs import is_set, need_web, without


def value_without(web, some, place):
    return value(cut_down(web, without(some, (place,))))


def needed_in(web, some):
    held = value(cut_down(web, some))
    return tuple([place for place in some if is_less(value_without(web, some, place), held)])


def needed(web):
    need_web(web)
    return needed_in(web, tuple(range(web[0])))


def held_part(web):
    need_web(web)
    held = value(web)
    some = tuple(range(web[0]))
    # A place that was needed stays so in what is cut down further: once round all places is enough.
    for place in range(web[0]):
        if value_without(web, some, place) == held:
            some = without(some, (place,))
    return some


def is_part(web, some):
    need_web(web)
    if not is_set(web[0], some) or value(cut_down(web, some)) != value(web):
        return False
    return needed_in(web, some) == some
