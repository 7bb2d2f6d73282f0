"""Promise 7, and what promise 2 says of it: rings, picks and grown webs."""

import unittest
from itertools import combinations
from math import comb

from hueshare.errors import NoNumber, NoWeb, TooMany
from hueshare.shapes import grown, picks, ring
from tests import samples
from tests.checks import Checks

BEYOND_ALL = [-1, 0, 11, 12, 100, -10 ** 30, 10 ** 30, True, False]


class RingTest(Checks):
    def test_each(self):
        for n in range(3, 11):
            told = ring(n)
            around = {frozenset((i, (i + 1) % n)) for i in range(n)}
            self.check_web(told)
            self.assertEqual(told[0], n)
            self.assertEqual({frozenset(tie) for tie in told[1]}, around)
            self.assertEqual(len(told[1]), n)

    def test_by_hand(self):
        self.assertEqual(ring(3), (3, ((0, 1), (0, 2), (1, 2))))
        self.assertEqual(ring(4), (4, ((0, 1), (0, 3), (1, 2), (2, 3))))
        self.assertEqual(ring(5), (5, ((0, 1), (0, 4), (1, 2), (2, 3), (3, 4))))

    def test_no_number(self):
        for n in BEYOND_ALL + [1, 2, -3]:
            self.check_refused(NoNumber, ring, n)

    def test_by_name_alike_and_soon(self):
        self.assertEqual(ring(n=10), samples.ring(10))
        for n in range(3, 11):
            self.check_told_alike(ring, n)
            self.check_soon(ring, n)


class PicksTest(Checks):
    def test_each(self):
        for m in range(1, 11):
            for k in range(1, m + 1):
                if comb(m, k) > 10:
                    self.check_refused(TooMany, picks, m, k)
                    continue
                some = list(combinations(range(m), k))
                told = picks(m, k)
                self.check_web(told)
                ties = [(i, j) for i, j in samples.pairs(range(len(some))) if not set(some[i]) & set(some[j])]
                self.assertEqual(told, (len(some), tuple(ties)))

    def test_by_hand(self):
        self.assertEqual(picks(1, 1), (1, ()))
        self.assertEqual(picks(4, 2), (6, ((0, 5), (1, 4), (2, 3))))
        self.assertEqual(picks(5, 2), samples.petersen())
        self.assertEqual(picks(10, 1), samples.whole(10))
        self.assertEqual(picks(10, 9), samples.loose(10))
        self.assertEqual(picks(10, 10), (1, ()))
        self.assertEqual(picks(5, 3), samples.loose(10))

    def test_too_many(self):
        for m, k in [(6, 2), (6, 3), (6, 4), (7, 2), (10, 2), (10, 5), (10, 8)]:
            self.check_refused(TooMany, picks, m, k)

    def test_no_number(self):
        for m in BEYOND_ALL:
            for k in BEYOND_ALL + list(range(1, 11)):
                self.check_refused(NoNumber, picks, m, k)
        for m in range(1, 11):
            for k in BEYOND_ALL + [m + 1, m + 2]:
                self.check_refused(NoNumber, picks, m, k)

    def test_by_name_alike_and_soon(self):
        self.assertEqual(picks(k=2, m=4), (6, ((0, 5), (1, 4), (2, 3))))
        for m, k in [(1, 1), (5, 2), (10, 9), (4, 2)]:
            self.check_told_alike(picks, m, k)
        for m, k in [(10, 5), (10, 8)]:
            self.check_soon(lambda m, k: self.check_refused(TooMany, picks, m, k), m, k)


def plainly_grown(web):
    n = web[0]
    ties = set(web[1])
    for i in range(n):
        ties |= {(j, n + i) for j in range(n) if samples.plainly_tied(web, i, j)}
        ties |= {(n + i, 2 * n)}
    return (2 * n + 1, tuple(sorted(ties)))


class GrownTest(Checks):
    def test_each(self):
        for web in samples.small_webs():
            told = grown(web)
            self.check_web(told)
            self.assertEqual(told, plainly_grown(web))

    def test_by_hand(self):
        self.assertEqual(grown((0, ())), (1, ()))
        self.assertEqual(grown((1, ())), (3, ((1, 2),)))
        self.assertEqual(grown((2, ((0, 1),))), (5, ((0, 1), (0, 3), (1, 2), (2, 4), (3, 4))))
        self.assertEqual(grown((4, ()))[0], 9)

    def test_too_many(self):
        for web in samples.some_webs():
            if web[0] > 4:
                self.check_refused(TooMany, grown, web)

    def test_no_web(self):
        for thing in samples.no_webs():
            self.check_refused(NoWeb, grown, thing)

    def test_by_name_alike_and_soon(self):
        self.assertEqual(grown(web=(0, ())), (1, ()))
        for web in samples.small_webs():
            self.check_told_alike(grown, web)
        self.check_soon(grown, samples.whole(4))


if __name__ == "__main__":
    unittest.main()
