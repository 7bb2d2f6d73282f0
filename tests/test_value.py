"""Promise 11: what is said of the value of webs, made ones among them."""

import unittest
from fractions import Fraction
from math import comb

from hueshare.apart import greatest_apart, greatest_crowd
from hueshare.hues import fewest
from hueshare.made import across, beside, cut_down, other_web, within
from hueshare.shapes import grown, picks, ring
from hueshare.shares import shares, value
from tests import samples
from tests.checks import Checks


def worth(web):
    return Fraction(*value(web))


def parts():
    webs = [(0, ()), (1, ()), (2, ()), (2, ((0, 1),)), samples.path(3), samples.whole(3), ring(4), ring(5)]
    return webs + [samples.path(5), samples.whole(5), samples.mixed(5, 7, 3), samples.mixed(5, 7, 4)]


class ValueTest(Checks):
    def test_it_is_what_every_place_wants_one(self):
        for web in samples.some_webs() + samples.small_webs():
            self.assertEqual(value(web), shares(web, (1,) * web[0])[0])
            self.check_fraction(value(web))

    def test_by_hand(self):
        self.assertEqual(value((0, ())), (0, 1))
        for n in range(1, 11):
            self.assertEqual(value(samples.loose(n)), (1, 1))
            self.assertEqual(value(samples.whole(n)), (n, 1))
        self.assertEqual(value(ring(5)), (5, 2))
        self.assertEqual(value(other_web(ring(7))), (7, 2))
        self.assertEqual(value(samples.petersen()), (5, 2))

    def test_between_crowd_and_hues(self):
        for web in samples.some_webs() + samples.small_webs():
            self.assertLessEqual(len(greatest_crowd(web)), worth(web))
            self.assertLessEqual(worth(web), fewest(web)[0])
            self.assertGreaterEqual(len(greatest_apart(web)) * worth(web), web[0])

    def test_side_by_side_and_across(self):
        for one in parts() + samples.all_webs(3):
            for other in parts():
                self.assertEqual(worth(beside(one, other)), max(worth(one), worth(other)), (one, other))
                self.assertEqual(worth(across(one, other)), worth(one) + worth(other), (one, other))

    def test_within_one_another(self):
        made = 0
        for one in parts() + samples.all_webs(3):
            for other in parts() + samples.all_webs(3):
                if one[0] * other[0] <= 10:
                    self.assertEqual(worth(within(one, other)), worth(one) * worth(other), (one, other))
                    made += 1
        self.assertGreater(made, 100)

    def test_grown(self):
        for web in samples.small_webs():
            if web[0]:
                self.assertEqual(worth(grown(web)), worth(web) + 1 / worth(web), web)

    def test_rings(self):
        for r in range(2, 6):
            self.assertEqual(worth(ring(2 * r)), 2)
        for r in range(1, 5):
            self.assertEqual(worth(ring(2 * r + 1)), 2 + Fraction(1, r))

    def test_picks(self):
        for m in range(1, 11):
            for k in range(1, m // 2 + 1):
                if comb(m, k) <= 10:
                    self.assertEqual(worth(picks(m, k)), Fraction(m, k))

    def test_a_tie_more(self):
        for web in samples.all_webs(4) + samples.some_webs()[::3]:
            n, ties = web
            for tie in other_web(web)[1]:
                self.assertGreaterEqual(worth((n, tuple(sorted(ties + (tie,))))), worth(web))

    def test_a_place_more(self):
        for web in samples.all_webs(4) + samples.some_webs()[::3]:
            n = web[0]
            for place in range(n):
                fewer = worth(cut_down(web, tuple(other for other in range(n) if other != place)))
                self.assertLessEqual(fewer, worth(web))
                self.assertLessEqual(worth(web), fewer + 1)


if __name__ == "__main__":
    unittest.main()
