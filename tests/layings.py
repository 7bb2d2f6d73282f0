"""Plain looks at layings and prices."""

from fractions import Fraction
from functools import cache

from tests import samples


def total(fractions):
    return sum((Fraction(*fraction) for fraction in fractions), Fraction(0))


def worth_of(wants, prices):
    return sum((want * Fraction(*price) for want, price in zip(wants, prices)), Fraction(0))


def got_by(laying, place):
    return total(share for some, share in laying if place in some)


def plainly_enough(web, wants, laying):
    # Of a list of apart sets with fractions above nought.
    return all(got_by(laying, place) >= want for place, want in enumerate(wants))


@cache
def apart_sets(web):
    return [some for some in samples.sets_of(web[0]) if samples.plainly_apart(web, some)]


def plainly_prices(web, prices):
    exactly = [Fraction(*price) for price in prices]
    return all(sum(exactly[place] for place in some) <= 1 for some in apart_sets(web))
