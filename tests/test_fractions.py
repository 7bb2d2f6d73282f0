"""What promise 2 says of fractions: lowest, plus, times, is_less."""

import unittest
from fractions import Fraction
from math import gcd
from random import Random

from hueshare.fractions import is_less, lowest, plus, times
from tests.checks import Checks

SIXTY = 10 ** 60


def told(fraction):
    return (fraction.numerator, fraction.denominator)


def small():
    return sorted({told(Fraction(a, b)) for a in range(13) for b in range(1, 8)})


def great():
    chance = Random(60)
    pairs = [(chance.randrange(SIXTY), chance.randrange(1, SIXTY)) for _ in range(20)]
    pairs += [(SIXTY - 1, 1), (1, SIXTY - 1), (SIXTY - 1, SIXTY - 2), (SIXTY - 2, SIXTY - 1), (0, 1), (1, 1)]
    pairs += [(2 ** 199, 3 ** 125), (3 ** 125, 2 ** 199), (10 ** 59, 10 ** 59 + 1)]
    return sorted({told(Fraction(a, b)) for a, b in pairs})


class LowestTest(Checks):
    def check(self, a, b):
        self.assertEqual(lowest(a, b), told(Fraction(a, b)))
        self.check_fraction(lowest(a, b))

    def test_small(self):
        for a in range(-40, 41):
            for b in range(1, 41):
                self.check(a, b)

    def test_by_hand(self):
        self.assertEqual(lowest(0, 1), (0, 1))
        self.assertEqual(lowest(0, 12), (0, 1))
        self.assertEqual(lowest(12, 1), (12, 1))
        self.assertEqual(lowest(12, 12), (1, 1))
        self.assertEqual(lowest(12, 8), (3, 2))
        self.assertEqual(lowest(8, 12), (2, 3))
        self.assertEqual(lowest(-12, 8), (-3, 2))
        self.assertEqual(lowest(-12, 4), (-3, 1))
        self.assertEqual(lowest(-1, 3), (-1, 3))

    def test_great(self):
        chance = Random(6)
        for a, b in great():
            for by in (1, 2, 6, SIXTY, chance.randrange(1, SIXTY)):
                self.check(a * by, b * by)
                self.check(-a * by, b * by)
        self.check(0, SIXTY)

    def test_many_steps(self):
        one, other = 1, 1
        while other < SIXTY ** 2:
            one, other = other, one + other
        self.check(one, other)
        self.check(-other, one)

    def test_by_name(self):
        self.assertEqual(lowest(b=4, a=-2), (-1, 2))


class TwoFractionsTest(Checks):
    def check(self, one, other):
        left, right = Fraction(*one), Fraction(*other)
        self.assertEqual(plus(one, other), told(left + right))
        self.assertEqual(times(one, other), told(left * right))
        self.check_is_told(left < right, is_less, one, other)
        for answer in (plus(one, other), times(one, other)):
            self.check_fraction(answer)

    def test_each_two(self):
        for fractions in (small(), great()):
            for one in fractions:
                self.assertEqual(gcd(*one), 1)
                for other in fractions:
                    self.check(one, other)

    def test_small_with_great(self):
        for one in small():
            for other in great():
                self.check(one, other)
                self.check(other, one)

    def test_by_hand(self):
        self.assertEqual(plus((1, 6), (1, 3)), (1, 2))
        self.assertEqual(plus((0, 1), (0, 1)), (0, 1))
        self.assertEqual(plus((1, 2), (1, 2)), (1, 1))
        self.assertEqual(times((2, 3), (3, 4)), (1, 2))
        self.assertEqual(times((0, 1), (3, 4)), (0, 1))
        self.assertIs(is_less((1, 3), (1, 2)), True)
        self.assertIs(is_less((1, 2), (1, 3)), False)
        self.assertIs(is_less((1, 2), (1, 2)), False)
        self.assertIs(is_less((0, 1), (0, 1)), False)
        self.assertIs(is_less((0, 1), (1, SIXTY - 1)), True)

    def test_nearly_alike(self):
        one, other = (SIXTY - 2, SIXTY - 1), (SIXTY - 3, SIXTY - 2)
        self.check(one, other)
        self.assertIs(is_less(other, one), True)
        self.assertIs(is_less(one, other), False)

    def test_by_name_and_alike(self):
        self.assertEqual(plus(other=(1, 2), one=(1, 3)), (5, 6))
        self.assertEqual(times(other=(1, 2), one=(1, 3)), (1, 6))
        self.assertIs(is_less(other=(1, 2), one=(1, 3)), True)
        for asked in (plus, times, is_less):
            self.check_told_alike(asked, (1, 2), (2, 3))
        self.check_told_alike(lowest, 4, 6)


if __name__ == "__main__":
    unittest.main()
