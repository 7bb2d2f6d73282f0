"""Promises 12 and 13, and what promise 2 says of them: so many hues each, and shares spread."""

import unittest
from fractions import Fraction
from itertools import combinations, product

from hueshare.each import are_rows, each_so_many, spread
from hueshare.errors import NoNumber, NoWeb, TooMany
from hueshare.hues import fewest
from hueshare.shapes import ring
from hueshare.shares import value
from tests import samples
from tests.checks import Checks

BEYOND = [0, -1, -5, -10 ** 30, True, False]


def plainly_rows(web, b, rows):
    if len(rows) != web[0] or any(len(row) != b or min(row) < 0 or list(row) != sorted(set(row)) for row in rows):
        return False
    return not any(set(rows[one]) & set(rows[other]) for one, other in web[1])


def can_do(web, b, a, begun):
    # Whether the rows that are begun go on to rows for all places.
    place = len(begun)
    if place == web[0]:
        return True
    taken = {hue for other in range(place) if samples.plainly_tied(web, other, place) for hue in begun[other]}
    free = [hue for hue in range(a) if hue not in taken]
    return any(can_do(web, b, a, begun + [row]) for row in combinations(free, b))


def plainly_as_few(web, b):
    a = 0
    while not can_do(web, b, a, []):
        a += 1
    return a


def cases():
    webs = samples.small_webs() + samples.some_webs() + [ring(5)]
    return [(web, b) for web in webs for b in range(1, 6) if web[0] * b <= 10]


class EachTest(Checks):
    def check_kinds(self, rows):
        self.assertIs(type(rows), list)
        for row in rows:
            self.assertIs(type(row), tuple)
            self.check_wholes(*row)

    def test_rows(self):
        for web, b in cases():
            told = each_so_many(web, b)
            self.assertIs(type(told), tuple)
            a, rows = told
            self.check_wholes(a)
            self.check_kinds(rows)
            self.assertTrue(plainly_rows(web, b, rows), (web, b, rows))
            self.assertTrue(all(hue < a for row in rows for hue in row))
            self.assertLessEqual(b * Fraction(*value(web)), a)

    def test_as_few_as_can_be(self):
        for web in samples.small_webs() + [ring(5), samples.mixed(5, 7, 3), samples.path(5)]:
            for b in range(1, 6):
                if web[0] * b <= 10 and (b < 4 or web[0] < 3):
                    self.assertEqual(each_so_many(web, b)[0], plainly_as_few(web, b), (web, b))

    def test_by_hand(self):
        for b in range(1, 6):
            self.assertEqual(each_so_many((0, ()), b), (0, []))
            self.assertEqual(each_so_many((1, ()), b), (b, [tuple(range(b))]))
            self.assertEqual(each_so_many((2, ((0, 1),)), b)[0], 2 * b)
            self.assertEqual(each_so_many((2, ()), b), (b, [tuple(range(b))] * 2))
        self.assertEqual(each_so_many(ring(5), 1)[0], 3)
        self.assertEqual(each_so_many(ring(5), 2)[0], 5)
        self.assertEqual(each_so_many(ring(3), 3)[0], 9)
        for web in samples.ten_place_webs():
            self.assertEqual(each_so_many(web, 1)[0], fewest(web)[0])

    def test_too_many(self):
        for web in samples.some_webs() + samples.small_webs():
            for b in range(1, 6):
                if web[0] * b > 10:
                    self.check_refused(TooMany, each_so_many, web, b)

    def test_no_number(self):
        for web in [(0, ()), (1, ()), (2, ((0, 1),)), ring(5), samples.petersen()]:
            for b in BEYOND + [6, 7, 10, 11, 10 ** 30]:
                self.check_refused(NoNumber, each_so_many, web, b)

    def test_no_web(self):
        for thing in samples.no_webs():
            for b in [1, 2, 5, 0, 6, -1]:
                self.check_refused(NoWeb, each_so_many, thing, b)

    def test_told_alike_soon_and_by_name(self):
        for web, b in [((0, ()), 5), ((1, ()), 5), (ring(5), 2), (ring(3), 3), (samples.petersen(), 1)]:
            self.check_told_alike(each_so_many, web, b)
        for web, b in cases():
            if web[0] * b == 10:
                self.check_soon(each_so_many, web, b)
        self.assertEqual(each_so_many(b=2, web=(1, ())), (2, [(0, 1)]))


class AreRowsTest(Checks):
    def test_the_told_ones(self):
        for web, b in cases():
            a, rows = each_so_many(web, b)
            self.check_is_told(True, are_rows, web, b, rows)
            self.check_is_told(True, are_rows, web, b, [tuple(hue + 10 ** 30 for hue in row) for row in rows])
            for wrong in (b + 1, b - 1, 2 * b, 10 ** 30):
                if wrong >= 1:
                    self.check_is_told(web[0] == 0, are_rows, web, wrong, rows)

    def test_each_list_of_small_rows(self):
        rows = [(), (0,), (1,), (-1,), (0, 1), (1, 2), (2, 3), (1, 0), (1, 1), (-1, 0), (0, 1, 2)]
        for web in samples.all_webs(1) + samples.all_webs(2):
            for size in range(4):
                for some in product(rows, repeat=size):
                    for b in (1, 2, 3):
                        good = plainly_rows(web, b, some)
                        self.assertIs(are_rows(web, b, list(some)), good, (web, b, some))

    def test_many_hues_each(self):
        for b in (6, 7, 100, 1000):
            for web in [ring(5), samples.petersen(), samples.whole(10)]:
                rows = [tuple(range(k * b, k * b + b)) for k in range(web[0])]
                self.check_is_told(True, are_rows, web, b, rows)
                self.check_is_told(False, are_rows, web, b + 1, rows)
                for one, other in web[1]:
                    last = rows[other][-1]
                    alike = list(rows)
                    alike[one] = rows[one][1:] + (last,) if one < other else (last,) + rows[one][1:]
                    self.check_is_told(False, are_rows, web, b, alike)

    def test_each_way_to_fail(self):
        web = ring(5)
        a, rows = each_so_many(web, 2)
        self.check_is_told(False, are_rows, web, 2, rows[1:])
        self.check_is_told(False, are_rows, web, 2, rows[:-1])
        self.check_is_told(False, are_rows, web, 2, rows + [rows[0]])
        self.check_is_told(False, are_rows, web, 2, [])
        for k in range(5):
            low, high = rows[k]
            others = [(high, low), (low, low), (high, high), (-1, high), (-2, -1), (low,), (high,), (), (low, high, 99)]
            others += [rows[(k + 1) % 5], rows[(k - 1) % 5]]
            for wrong in others:
                self.check_is_told(False, are_rows, web, 2, rows[:k] + [wrong] + rows[k + 1:])
        self.check_is_told(False, are_rows, (2, ()), 1, [(True,), (False,)])
        self.check_is_told(False, are_rows, (2, ()), 1, [[0], [0]])
        self.check_is_told(False, are_rows, (2, ()), 1, ((0,), (0,)))

    def test_without_places(self):
        for b in (1, 5, 6, 10 ** 30):
            self.check_is_told(True, are_rows, (0, ()), b, [])
            self.check_is_told(False, are_rows, (0, ()), b, [()])
            self.check_is_told(False, are_rows, (0, ()), b, [(0,)])

    def test_refused(self):
        for web in [(0, ()), (1, ()), ring(5), samples.petersen()]:
            for b in BEYOND:
                for rows in ([], [()] * web[0], [(0,)] * web[0]):
                    self.check_refused(NoNumber, are_rows, web, b, rows)
        for thing in samples.no_webs():
            for b in [1, 0, -1, 6]:
                self.check_refused(NoWeb, are_rows, thing, b, [])

    def test_by_name(self):
        self.assertIs(are_rows(rows=[(0, 4)], b=2, web=(1, ())), True)


class SpreadTest(Checks):
    def check(self, web):
        told = self.check_soon(spread, web)
        self.assertIs(type(told), tuple)
        a, b, rows = told
        self.check_wholes(a, b)
        self.assertGreaterEqual(b, 1)
        self.assertEqual(Fraction(a, b), Fraction(*value(web)))
        self.assertIs(type(rows), list)
        for row in rows:
            self.assertIs(type(row), tuple)
            self.check_wholes(*row)
            self.assertTrue(all(hue < a for hue in row))
        self.assertTrue(plainly_rows(web, b, rows), (web, told))
        self.check_is_told(True, are_rows, web, b, rows)

    def test_each(self):
        for web in samples.some_webs() + samples.small_webs() + samples.all_webs(5)[::7]:
            self.check(web)

    def test_values_that_are_not_whole(self):
        webs = [ring(5), ring(7), ring(9), samples.petersen(), (10, ring(7)[1] + ((6, 7), (6, 8), (7, 8), (8, 9)))]
        for web in webs:
            self.check(web)
            self.assertGreaterEqual(spread(web)[1], value(web)[1])

    def test_by_hand(self):
        self.assertEqual(spread((0, ()))[0], 0)
        self.assertEqual(spread((0, ()))[2], [])
        a, b, rows = spread((2, ((0, 1),)))
        self.assertEqual(a, 2 * b)

    def test_no_web(self):
        for thing in samples.no_webs():
            self.check_refused(NoWeb, spread, thing)

    def test_told_alike_and_by_name(self):
        for web in [(0, ()), (1, ()), ring(5), samples.petersen()]:
            self.check_told_alike(spread, web)
        self.assertEqual(spread(web=(0, ()))[2], [])


if __name__ == "__main__":
    unittest.main()
