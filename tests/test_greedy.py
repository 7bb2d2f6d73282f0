"""Promise 16, and what promise 2 says of it: hues laid one after the other, and their prices."""

import unittest
from fractions import Fraction

from hueshare.errors import NoWeb
from hueshare.greedy import greedy
from hueshare.hues import fewest
from hueshare.shapes import ring
from hueshare.shares import are_prices, value
from tests import samples
from tests.checks import Checks


def plainly_sets(web):
    good = [some for some in samples.sets_of(web[0]) if samples.plainly_apart(web, some)]
    left = set(range(web[0]))
    sets = []
    while left:
        free = [some for some in good if set(some) <= left]
        most = max(len(some) for some in free)
        sets.append(min(some for some in free if len(some) == most))
        left -= set(sets[-1])
    return sets


def plainly_h(web):
    t = max(len(samples.plainly_greatest(web, samples.plainly_apart)), 1)
    return sum(Fraction(1, k) for k in range(1, t + 1))


def webs_to_look_at():
    return samples.some_webs() + samples.small_webs() + samples.drawn_webs(range(5, 11), 22)


class GreedyTest(Checks):
    def check(self, web):
        told = greedy(web)
        self.assertIs(type(told), tuple)
        sets, prices = told
        self.assertIs(type(sets), list)
        for some in sets:
            self.check_set(web[0], some)
        self.assertEqual(sets, plainly_sets(web), web)
        self.assertEqual(sorted(place for some in sets for place in some), list(range(web[0])))
        self.check_prices(web, sets, prices)

    def check_prices(self, web, sets, prices):
        h = plainly_h(web)
        size = {place: len(some) for some in sets for place in some}
        self.assertIs(type(prices), list)
        self.assertEqual(len(prices), web[0])
        for place, price in enumerate(prices):
            self.check_fraction(price)
            self.assertEqual(Fraction(*price), 1 / (size[place] * h), (web, place))
        worth = sum((Fraction(*price) for price in prices), Fraction(0))
        self.assertEqual(worth, len(sets) / h)
        wants = (1,) * web[0]
        self.assertIs(are_prices(web, wants, prices, (worth.numerator, worth.denominator)), True)
        self.assertLessEqual(len(sets), h * Fraction(*value(web)))

    def test_sets_and_prices(self):
        for web in webs_to_look_at():
            self.check(web)

    def test_every_web_of_five_places(self):
        for web in samples.all_webs(5)[::4]:
            self.check(web)

    def test_by_hand(self):
        self.assertEqual(greedy((0, ())), ([], []))
        self.assertEqual(greedy((1, ())), ([(0,)], [(1, 1)]))
        self.assertEqual(greedy(ring(5)), ([(0, 2), (1, 3), (4,)], [(1, 3), (1, 3), (1, 3), (1, 3), (2, 3)]))
        self.assertEqual(greedy((3, ((0, 1), (0, 2)))), ([(1, 2), (0,)], [(2, 3), (1, 3), (1, 3)]))
        self.assertEqual(greedy(samples.loose(10)), ([tuple(range(10))], [(252, 7381)] * 10))
        for n in range(1, 11):
            self.assertEqual(greedy(samples.whole(n)), ([(place,) for place in range(n)], [(1, 1)] * n))

    def test_more_hues_than_the_fewest(self):
        # The first of the greatest apart sets has both ends of the path, and leaves two that are tied.
        web = (4, ((0, 2), (1, 3), (2, 3)))
        self.check(web)
        self.assertEqual(greedy(web)[0], [(0, 1), (2,), (3,)])
        self.assertEqual(fewest(web)[0], 2)

    def test_told_alike_soon_and_by_name(self):
        for web in [(0, ()), (1, ()), ring(5), samples.petersen(), samples.loose(4)]:
            self.check_told_alike(greedy, web)
        for web in samples.ten_place_webs():
            self.check_soon(greedy, web)
        self.assertEqual(greedy(web=(1, ())), ([(0,)], [(1, 1)]))

    def test_no_web(self):
        for thing in samples.no_webs():
            self.check_refused(NoWeb, greedy, thing)


if __name__ == "__main__":
    unittest.main()
