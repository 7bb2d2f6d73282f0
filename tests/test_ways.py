"""Promise 17, and what promise 2 says of it: ways from web to web, and layings pulled back."""

import unittest
from fractions import Fraction
from itertools import product
from random import Random

from hueshare.apart import greatest_crowd
from hueshare.errors import NoPlace, NoWeb
from hueshare.hues import fewest
from hueshare.shapes import picks, ring
from hueshare.shares import is_enough, shares, value
from hueshare.ways import is_way, pulled, way_into
from tests import samples
from tests.checks import Checks

MOST = 10 ** 9


def plainly_way(web, other, some):
    if len(some) != web[0] or not all(type(image) is int and 0 <= image < other[0] for image in some):
        return False
    return all(samples.plainly_tied(other, some[i], some[j]) for i, j in web[1])


def has_way(web, other):
    return any(plainly_way(web, other, some) for some in product(range(other[0]), repeat=web[0]))


def up_to(n):
    return [web for web in samples.small_webs() if web[0] <= n]


def hard_pairs():
    # Ten places into ten, where there is no way, and much has to be looked through to know it.
    one = """05 07 08 12 13 14 16 17 19 25 28 34 35 36 37 38 39 46 47 48 49 56 67 69 79 89"""
    two = """01 02 03 04 07 08 12 13 14 15 16 18 19 23 24 25 27 28 29 34 36 37 38 39 45 46 47 49 56 57 59 67 68 69 79
        89"""
    three = """01 03 06 08 12 16 17 23 24 25 27 28 29 34 35 37 38 39 45 46 47 48 49 56 57 58 59 69 78 79 89"""
    four = """01 02 03 05 06 07 08 09 12 13 14 15 16 17 18 19 23 25 26 28 29 34 36 37 39 45 46 47 48 49 56 57 58 59 67
        68 69 79"""
    webs = [(10, tuple((int(a), int(b)) for a, b in text.split())) for text in (one, two, three, four)]
    nine = (10, samples.whole(10)[1][:-1])
    return [(webs[0], webs[1]), (webs[2], webs[3]), (samples.whole(10), samples.whole(9)), (samples.whole(10), nine)]


class WayIntoTest(Checks):
    def check(self, web, other, there_is):
        told = way_into(web, other)
        if there_is:
            self.assertIs(type(told), tuple, (web, other))
            self.check_wholes(*told)
            self.assertTrue(plainly_way(web, other, told), (web, other, told))
            self.check_is_told(True, is_way, web, other, told)
        else:
            self.assertIsNone(told, (web, other))

    def test_small_webs_by_looking_through_all(self):
        for web in up_to(3) + samples.all_webs(4)[::5]:
            for other in up_to(4):
                self.check(web, other, has_way(web, other))
        for web in samples.all_webs(5)[::23]:
            for other in up_to(3) + samples.all_webs(4)[::7]:
                self.check(web, other, has_way(web, other))

    def test_without_places(self):
        for web in samples.some_webs():
            self.assertEqual(way_into((0, ()), web), ())
            self.check(web, (0, ()), web[0] == 0)
            self.check(web, (1, ()), web[1] == ())

    def test_into_crowds_and_out_of_crowds(self):
        for web in samples.some_webs() + samples.drawn_webs(range(6, 11), 24):
            hues = fewest(web)[0]
            crowd = len(greatest_crowd(web))
            for n in range(11):
                self.check(web, samples.whole(n), hues <= n)
                self.check(samples.whole(n), web, n <= crowd)

    def test_rings_into_rings(self):
        for n in range(3, 11):
            for m in range(3, 11):
                self.check(ring(n), ring(m), n % 2 == 0 or (m % 2 == 1 and n >= m))

    def test_petersen(self):
        for n in range(3, 11):
            self.check(ring(n), samples.petersen(), n != 3)
            self.check(samples.petersen(), ring(n), n == 3)
        self.check(samples.petersen(), picks(5, 2), True)

    def test_into_itself_and_into_what_holds_it(self):
        chance = Random(25)
        for web in samples.drawn_webs([8, 9, 10], 26):
            n, ties = web
            names = chance.sample(range(n), n)
            self.check(web, samples.renamed(web, names), True)
            more = {tie for tie in samples.pairs(range(n)) if chance.randrange(4) == 0}
            self.check(web, samples.renamed((n, tuple(set(ties) | more)), names), True)

    def test_no_way_where_the_value_is_greater(self):
        webs = samples.drawn_webs([7, 10], 27) + samples.ten_place_webs()[::3]
        ways = 0
        for web in webs:
            for other in webs:
                told = way_into(web, other)
                if told is None:
                    continue
                ways += 1
                self.assertTrue(plainly_way(web, other, told))
                self.assertLessEqual(Fraction(*value(web)), Fraction(*value(other)))
        self.assertGreater(ways, 100)

    def test_told_alike_and_by_name(self):
        for web, other in [((0, ()), (0, ())), (ring(7), ring(5)), (ring(5), ring(7)), (samples.path(4), ring(4))]:
            self.check_told_alike(way_into, web, other)
        self.assertEqual(way_into(other=(1, ()), web=(2, ())), (0, 0))
        self.assertIsNone(way_into(other=(2, ()), web=(2, ((0, 1),))))

    def test_soon(self):
        for web in samples.ten_place_webs():
            for other in samples.ten_place_webs():
                self.check_soon(way_into, web, other)

    def test_hard_pairs_soon_one_after_the_other(self):
        def ways():
            return [way_into(web, other) for web, other in hard_pairs()]
        self.assertEqual(self.check_soon(ways), [None, None, None, None])


class IsWayTest(Checks):
    def test_every_small_tuple(self):
        for web in up_to(3):
            for other in up_to(3):
                for size in range(web[0] + 2):
                    for some in product(range(-1, other[0] + 1), repeat=size):
                        self.assertIs(is_way(web, other, some), plainly_way(web, other, some), (web, other, some))

    def test_each_way_to_fail(self):
        webs = [ring(7), samples.petersen(), samples.path(6), samples.mixed(8, 7, 3), (1, ()), samples.loose(4)]
        for web in webs:
            for other in [samples.whole(6), samples.mixed(10, 7, 5)]:
                self.check_each_way_to_fail(web, other, way_into(web, other))

    def check_each_way_to_fail(self, web, other, some):
        n, m = web[0], other[0]
        self.check_is_told(True, is_way, web, other, some)
        for wrong in [some[1:], some[:-1], (), some + (0,), some + some, (0,) + some]:
            self.check_is_told(False, is_way, web, other, wrong)
        for k in range(n):
            for thing in [m, m + 1, -1, -m, some[k] - m, 10 ** 30, -10 ** 30]:
                self.check_is_told(False, is_way, web, other, some[:k] + (thing,) + some[k + 1:])
            for image in range(m):
                new = some[:k] + (image,) + some[k + 1:]
                self.check_is_told(plainly_way(web, other, new), is_way, web, other, new)
        for i, j in web[1]:
            new = some[:j] + (some[i],) + some[j + 1:]
            self.check_is_told(False, is_way, web, other, new)

    def test_each_tie_of_both_is_looked_at(self):
        web = samples.mixed(9, 7, 4)
        n, ties = web
        same = tuple(range(n))
        self.check_is_told(True, is_way, web, web, same)
        for tie in samples.pairs(range(n)):
            more = (n, tuple(sorted(set(ties) | {tie})))
            fewer = (n, tuple(sorted(set(ties) - {tie})))
            self.check_is_told(tie in ties, is_way, more, web, same)
            self.check_is_told(tie not in ties, is_way, web, fewer, same)
            self.check_is_told(True, is_way, web, more, same)
            self.check_is_told(True, is_way, fewer, web, same)

    def test_tied_ones_may_not_be_led_to_one_place_and_others_may(self):
        self.check_is_told(False, is_way, (2, ((0, 1),)), (2, ((0, 1),)), (0, 0))
        self.check_is_told(True, is_way, (2, ()), (2, ((0, 1),)), (0, 0))
        self.check_is_told(True, is_way, (2, ()), (2, ((0, 1),)), (1, 0))

    def test_without_places(self):
        self.check_is_told(True, is_way, (0, ()), (0, ()), ())
        self.check_is_told(True, is_way, (0, ()), ring(5), ())
        self.check_is_told(False, is_way, (0, ()), ring(5), (0,))
        self.check_is_told(False, is_way, (1, ()), (0, ()), ())
        self.check_is_told(False, is_way, (1, ()), (0, ()), (0,))

    def test_no_such_tuple_and_by_name(self):
        self.check_is_told(False, is_way, (2, ()), (2, ()), [0, 1])
        self.check_is_told(False, is_way, (2, ()), (2, ()), (False, True))
        self.assertIs(is_way(some=(0, 0), other=(1, ()), web=(2, ())), True)


def plainly_pulled(web, some, laying):
    got = {}
    for far, share in laying:
        near = tuple(place for place in range(web[0]) if some[place] in far)
        if near:
            got[near] = got.get(near, Fraction(0)) + Fraction(*share)
    return [(near, (got[near].numerator, got[near].denominator)) for near in sorted(got)]


def drawn_laying(other, chance):
    # Apart sets of the other web, the empty one too, with fractions in lowest terms or not.
    good = [some for some in samples.sets_of(other[0]) if samples.plainly_apart(other, some)]
    picked = sorted(chance.sample(good, chance.randrange(len(good) + 1)))
    return [(some, (chance.randrange(1, 30), chance.choice((1, 2, 4, 6, 30, MOST)))) for some in picked]


class PulledTest(Checks):
    def cases(self):
        webs = up_to(3)[::2] + [ring(7), samples.path(6), samples.loose(5), samples.mixed(8, 7, 3), samples.petersen()]
        others = [ring(3), ring(5), samples.whole(5), samples.mixed(10, 7, 5), samples.petersen(), samples.loose(3)]
        for web in webs:
            for other in others + [(0, ()), (1, ())]:
                some = way_into(web, other)
                if some is not None:
                    yield web, other, some

    def test_sets_and_sums(self):
        chance = Random(28)
        for web, other, some in self.cases():
            for laying in [drawn_laying(other, chance) for _ in range(6)] + [[], [((), (3, 6))]]:
                told = pulled(web, other, some, laying)
                self.check_laying(web, told)
                self.assertNotIn((), [near for near, share in told])
                self.assertEqual(told, plainly_pulled(web, some, laying), (web, other, some, laying))
                self.check_told_alike(pulled, web, other, some, laying)

    def test_every_way_of_small_webs(self):
        chance = Random(29)
        for web in up_to(3):
            for other in up_to(3):
                laying = drawn_laying(other, chance)
                for some in product(range(other[0]), repeat=web[0]):
                    if plainly_way(web, other, some):
                        self.assertEqual(pulled(web, other, some, laying), plainly_pulled(web, some, laying))

    def test_enough_where_it_was(self):
        for web, other, some in self.cases():
            least, laying, prices = shares(other, (1,) * other[0])
            told = pulled(web, other, some, laying)
            self.assertIs(is_enough(web, (1,) * web[0], told, least), True)
            more = [((place,), (1, 1)) for place in range(other[0])]
            told = pulled(web, other, some, more)
            self.assertIs(is_enough(web, (1,) * web[0], told, (other[0], 1)), True)

    def test_by_hand(self):
        two = (2, ((0, 1),))
        laying = [((), (1, 2)), ((0,), (2, 4)), ((0, 2), (1, 6)), ((1,), (1, 1)), ((2,), (7, 1))]
        self.assertEqual(pulled(two, ring(4), (0, 1), laying), [((0,), (2, 3)), ((1,), (1, 1))])
        self.assertEqual(pulled(two, ring(4), (1, 0), laying), [((0,), (1, 1)), ((1,), (2, 3))])
        self.assertEqual(pulled((2, ()), ring(4), (0, 2), laying), [((0,), (1, 2)), ((0, 1), (1, 6)), ((1,), (7, 1))])
        self.assertEqual(pulled((2, ()), ring(4), (3, 3), laying), [])
        self.assertEqual(pulled((0, ()), ring(4), (), laying), [])
        self.assertEqual(pulled((0, ()), (0, ()), (), [((), (1, 2))]), [])

    def test_many_unlike_fractions_soon(self):
        chance = Random(30)
        laying = [(some, (chance.randrange(1, MOST), MOST - k)) for k, some in enumerate(samples.sets_of(10))]
        for web in [(1, ()), (2, ()), samples.loose(10)]:
            some = tuple(range(web[0]))
            told = self.check_soon(pulled, web, samples.loose(10), some, laying)
            self.assertTrue(told == plainly_pulled(web, some, laying))

    def test_no_way(self):
        for web, other, some in [(ring(5), ring(5), tuple(range(5))), ((1, ()), ring(3), (0,)), ((0, ()), ring(3), ())]:
            m = other[0]
            wrong = [some + (0,), some[1:] if some else (0,), some + some + (1,), (m,) + some[1:], (-1,) + some[1:]]
            if some:
                wrong += [(), (True,) + some[1:], list(some), None]
            for thing in wrong:
                for laying in ([], [((0,), (1, 1))], [((), (1, 2))]):
                    self.check_refused(NoPlace, pulled, web, other, thing, laying)
        for some in product(range(5), repeat=5):
            if not plainly_way(ring(5), ring(5), some):
                self.assertRaises(NoPlace, pulled, ring(5), ring(5), some, [])

    def test_by_name(self):
        told = pulled(laying=[((0,), (1, 2))], some=(0, 0), other=(1, ()), web=(2, ()))
        self.assertEqual(told, [((0, 1), (1, 2))])


class RefusedTest(Checks):
    def test_no_web_goes_ahead(self):
        for thing in samples.no_webs():
            for one, other in [(thing, (0, ())), ((0, ()), thing), (thing, ring(3)), (ring(3), thing), (thing, thing)]:
                self.check_refused(NoWeb, way_into, one, other)
                for some in ((), (0, 1, 2), (-1,), (10 ** 30, 0)):
                    self.check_refused(NoWeb, is_way, one, other, some)
                    self.check_refused(NoWeb, pulled, one, other, some, [])
                    self.check_refused(NoWeb, pulled, one, other, some, [((0,), (1, 2))])


if __name__ == "__main__":
    unittest.main()
