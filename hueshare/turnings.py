"""Turnings: the ways of a web into itself that are orders of its places, and webs alike everywhere."""

from hueshare.apart import greatest_apart
from hueshare.errors import TooMany
from hueshare.fractions import lowest
from hueshare.webs import has_tie, need_web

MOST_TURNINGS = 720


def count_ties_at(web, place):
    return len([tie for tie in web[1] if place in tie])


def can_go_on(web, begun, image):
    # The numbers of ties are asked first: else many orders would be begun that can't be ended.
    place = len(begun)
    if image in begun or count_ties_at(web, image) != count_ties_at(web, place):
        return False
    return all([has_tie(web, begun[k], image) == has_tie(web, k, place) for k in range(place)])


def turnings_from(web, begun, most):
    # Those that go on from what is begun, sorted, and no more of them than asked for.
    if len(begun) == web[0]:
        return [begun]
    found = []
    for image in range(web[0]):
        if len(found) < most and can_go_on(web, begun, image):
            found.extend(turnings_from(web, begun + (image,), most - len(found)))
    return found


def turnings(web):
    need_web(web)
    found = turnings_from(web, (), MOST_TURNINGS + 1)
    if len(found) > MOST_TURNINGS:
        raise TooMany("the web has more than 720 turnings")
    return found


def leads_first_to(web, place):
    return can_go_on(web, (), place) and len(turnings_from(web, (place,), 1)) > 0


def is_alike(web):
    need_web(web)
    # Where the first place is led to each one, each is led to each by way of the first.
    return all([leads_first_to(web, place) for place in range(web[0])])


def alike_value(web):
    if not is_alike(web):
        return None
    # A web without places has an empty greatest apart set.
    return lowest(web[0], max(len(greatest_apart(web)), 1))
