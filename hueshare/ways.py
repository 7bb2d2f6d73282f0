"""Ways from a web into another one, and layings pulled back by them."""

from hueshare.errors import NoPlace
from hueshare.fractions import lowest, sum_of
from hueshare.webs import are_places, has_tie, need_web, neighbours


def are_left_open(state):
    return all([len(images) > 0 for place, images in state])


def count_images(open_place):
    return len(open_place[1])


class Search:
    # A state is a tuple of each place that isn't led yet, with the images that are left open to it. What comes of a
    # state hangs on it alone: so one that led nowhere is kept, and not gone into again from elsewhere.

    def __init__(self, web, other):
        self.near = [neighbours(web, place) for place in range(web[0])]
        self.far = [neighbours(other, place) for place in range(other[0])]
        self.led_nowhere = {}

    def images_left(self, images, image):
        return tuple([other for other in images if other in self.far[image]])

    def state_behind(self, state, led, image):
        rest = []
        for place, images in state:
            if place in self.near[led]:
                rest.append((place, self.images_left(images, image)))
            elif place != led:
                rest.append((place, images))
        return tuple(rest)

    def lead_first(self, state):
        # The place with the fewest images goes first: so what can't be done shows early.
        first = min(state, key=count_images)
        for image in first[1]:
            led = self.lead(self.state_behind(state, first[0], image))
            if led is not None:
                return led + [(first[0], image)]
        return None

    def lead(self, state):
        if not state:
            return []
        if state in self.led_nowhere or not are_left_open(state):
            return None
        led = self.lead_first(state)
        if led is None:
            self.led_nowhere[state] = True
        return led


def way_into(web, other):
    need_web(web)
    need_web(other)
    every = tuple(range(other[0]))
    led = Search(web, other).lead(tuple([(place, every) for place in range(web[0])]))
    return None if led is None else tuple([image for place, image in sorted(led)])


def is_way(web, other, some):
    need_web(web)
    need_web(other)
    if not isinstance(some, tuple) or len(some) != web[0] or not are_places(other[0], some):
        return False
    return all([has_tie(other, some[i], some[j]) for i, j in web[1]])


def pulled(web, other, some, laying):
    if not is_way(web, other, some):
        raise NoPlace("this is no way from the one web into the other")
    shares_of = {}
    for far, share in laying:
        near = tuple([place for place, image in enumerate(some) if image in far])
        if near:
            shares_of.setdefault(near, []).append(share)
    # Summed at once: one after the other many unlike fractions would be slow to bring to lowest terms.
    totals = [(near, sum_of(shares_of[near])) for near in sorted(shares_of)]
    return [(near, lowest(total[0], total[1])) for near, total in totals]
