"""A web that comes and goes place by place and tie by tie, with the shares that are kept for it."""

from hueshare.errors import NoPlace, NoTie
from hueshare.fractions import lowest
from hueshare.made import cut_down, moved_ties
from hueshare.shares import is_enough, shares
from hueshare.webs import has_tie, need_few, need_place, need_set, need_web


def ones_for(web):
    return (1,) * web[0]


def copy_of_web(web):
    return (web[0], tuple(moved_ties(web, 0)))


def copy_of_fraction(fraction):
    return lowest(fraction[0], fraction[1])


def copy_of_set(some):
    return tuple([place for place in some])


def as_tie(one, other):
    return (min(one, other), max(one, other))


class Sharing:
    def __init__(self, web):
        need_web(web)
        told = shares(web, ones_for(web))
        self.kept_laying = told[1]
        self.times_anew = 0
        self.keep(web, told)

    def keep(self, web, told):
        self.kept_web = web
        self.kept_value = told[0]
        self.kept_prices = told[2]

    def move_to(self, web):
        told = shares(web, ones_for(web))
        # What is enough and sums to no more than the least there can be sums to just that.
        if not is_enough(web, ones_for(web), self.kept_laying, told[0]):
            self.kept_laying = told[1]
            self.times_anew += 1
        self.keep(web, told)

    def need_two(self, one, other):
        need_place(self.kept_web, one)
        need_place(self.kept_web, other)
        if one == other:
            raise NoPlace("two unlike places can be tied or untied")

    def put(self, ties):
        need_set(self.kept_web, ties)
        n = self.kept_web[0]
        need_few(n + 1)
        added = [(place, n) for place in ties]
        self.move_to((n + 1, tuple(sorted(list(self.kept_web[1]) + added))))
        return n

    def tie(self, one, other):
        self.need_two(one, other)
        if has_tie(self.kept_web, one, other):
            raise NoTie("these are tied")
        ties = list(self.kept_web[1]) + [as_tie(one, other)]
        self.move_to((self.kept_web[0], tuple(sorted(ties))))

    def untie(self, one, other):
        self.need_two(one, other)
        if not has_tie(self.kept_web, one, other):
            raise NoTie("these are not tied")
        ties = [tie for tie in self.kept_web[1] if tie != as_tie(one, other)]
        self.move_to((self.kept_web[0], tuple(ties)))

    def drop(self):
        n = self.kept_web[0]
        if n == 0:
            raise NoPlace("there is no place to drop")
        self.move_to(cut_down(self.kept_web, tuple(range(n - 1))))

    def web(self):
        return copy_of_web(self.kept_web)

    def value(self):
        return copy_of_fraction(self.kept_value)

    def laying(self):
        return [(copy_of_set(some), copy_of_fraction(share)) for some, share in self.kept_laying]

    def prices(self):
        return [copy_of_fraction(price) for price in self.kept_prices]

    def again(self):
        return self.times_anew
