"""Promises 9 and 10, and what promise 2 says of them: wants, layings, prices, and the least shares."""

import unittest
from fractions import Fraction
from random import Random

from hueshare.errors import NoWants, NoWeb
from hueshare.shares import are_prices, is_enough, shares, value
from tests import samples
from tests.checks import Checks
from tests.layings import plainly_enough, plainly_prices, total, worth_of

MOST = 10 ** 9


def wants_for(n):
    chance = Random(n)
    told = [(0,) * n, (1,) * n, (99,) * n, tuple(k % 2 for k in range(n)), tuple(99 * (k % 3) // 2 for k in range(n))]
    told += [tuple(chance.randrange(100) for _ in range(n)) for _ in range(4)]
    told += [tuple(chance.choice((0, 0, 1, 50, 97, 99)) for _ in range(n)) for _ in range(4)]
    return sorted(set(told))


def told(fraction):
    return (fraction.numerator, fraction.denominator)


def webs_to_look_at():
    chance = Random(10)
    others = [samples.mixed(n, m, r) for n in (6, 9, 10) for m in (4, 9) for r in range(1, m)]
    for n in (8, 9, 10):
        for part in (3, 5, 7):
            others.append((n, tuple(tie for tie in samples.pairs(range(n)) if chance.randrange(10) < part)))
    return samples.some_webs() + samples.small_webs() + others


class SharesTest(Checks):
    def check(self, web, wants):
        answer = shares(web, wants)
        self.assertIs(type(answer), tuple)
        least, laying, prices = answer
        self.check_fraction(least)
        self.check_laying(web, laying)
        self.assertTrue(plainly_enough(web, wants, laying), (web, wants))
        self.assertIs(type(prices), list)
        self.assertEqual(len(prices), web[0])
        for price in prices:
            self.check_fraction(price)
            self.assertGreaterEqual(price[0], 0)
        self.assertTrue(plainly_prices(web, prices), (web, prices))
        self.assertEqual(total(share for some, share in laying), Fraction(*least))
        self.assertEqual(worth_of(wants, prices), Fraction(*least))
        for fraction in [least] + prices + [share for some, share in laying]:
            self.assertLessEqual(max(fraction), MOST)

    def test_every_place_wanting_one(self):
        for web in webs_to_look_at():
            self.check(web, (1,) * web[0])

    def test_wants(self):
        for web in samples.some_webs() + samples.small_webs()[::2]:
            for wants in wants_for(web[0])[::2 if web[0] < 9 else 4]:
                self.check(web, wants)

    def test_every_web_of_five_places(self):
        for k, web in enumerate(samples.all_webs(5)[::3]):
            self.check(web, wants_for(5)[k % 10])

    def test_by_hand(self):
        self.assertEqual(shares((0, ()), ()), ((0, 1), [], []))
        self.assertEqual(shares((1, ()), (0,)), ((0, 1), [], [(0, 1)]))
        self.assertEqual(shares((1, ()), (99,)), ((99, 1), [((0,), (99, 1))], [(1, 1)]))
        self.assertEqual(shares((2, ((0, 1),)), (3, 4)), ((7, 1), [((0,), (3, 1)), ((1,), (4, 1))], [(1, 1), (1, 1)]))
        self.assertEqual(shares(samples.ring(5), (1,) * 5)[0], (5, 2))
        self.assertEqual(shares(samples.ring(5), (2, 1, 1, 1, 1))[0], (3, 1))
        self.assertEqual(shares(samples.ring(5), (1, 1, 1, 1, 0))[0], (2, 1))
        self.assertEqual(shares(samples.whole(10), tuple(range(90, 100)))[0], (945, 1))
        self.assertEqual(shares(samples.loose(10), tuple(range(90, 100)))[0], (99, 1))
        self.assertEqual(shares(samples.petersen(), (99,) * 10)[0], (495, 2))

    def test_nothing_wanted(self):
        for web in samples.some_webs():
            least, laying, prices = shares(web, (0,) * web[0])
            self.assertEqual((least, laying), ((0, 1), []))
            self.assertEqual(len(prices), web[0])

    def test_told_alike(self):
        for web in [(0, ()), (1, ()), (3, ((0, 1),)), samples.ring(5), samples.petersen()]:
            self.check_told_alike(shares, web, (1,) * web[0])
            self.check_told_alike(shares, web, wants_for(web[0])[-1])
            self.check_told_alike(value, web)

    def test_soon(self):
        for web in samples.ten_place_webs():
            for wants in wants_for(10):
                least, laying, prices = self.check_soon(shares, web, wants)
                self.check_soon(is_enough, web, wants, laying, least)
                self.check_soon(are_prices, web, wants, prices, least)
            self.check_soon(value, web)

    def test_by_name(self):
        self.assertEqual(shares(wants=(2,), web=(1, ()))[0], (2, 1))
        self.assertEqual(value(web=(2, ((0, 1),))), (2, 1))


class IsEnoughTest(Checks):
    def cases(self):
        for web in [samples.ring(5), samples.path(4), samples.petersen(), samples.mixed(7, 7, 3), samples.whole(3)]:
            for wants in wants_for(web[0])[1::4]:
                least, laying, prices = shares(web, wants)
                if laying:
                    yield web, wants, least, laying

    def test_the_told_ones(self):
        for web in samples.some_webs() + samples.small_webs():
            for wants in wants_for(web[0])[::5]:
                least, laying, prices = shares(web, wants)
                self.check_is_told(True, is_enough, web, wants, laying, least)
                for by in (2, 7, MOST // least[1]):
                    self.check_is_told(True, is_enough, web, wants, laying, (least[0] * by, least[1] * by))
                self.check_is_told(True, is_enough, web, wants, laying, (least[0] + 1, least[1]))
                self.check_is_told(True, is_enough, web, wants, laying, (10 ** 30, MOST))
                less = Fraction(*least) - Fraction(1, 10 ** 6)
                if less >= 0:
                    self.check_is_told(False, is_enough, web, wants, laying, told(less))
                    self.check_is_told(False, is_enough, web, wants, laying, (0, 1))
                    self.check_is_told(False, is_enough, web, wants, laying, (0, MOST))

    def test_not_in_lowest_terms(self):
        for web, wants, least, laying in self.cases():
            for by in (2, 3, 1000):
                other = [(some, (a * by, b * by)) for some, (a, b) in laying]
                self.check_is_told(True, is_enough, web, wants, other, least)
            other = [(some, (a * (MOST // b), b * (MOST // b))) for some, (a, b) in laying]
            self.check_is_told(True, is_enough, web, wants, other, (least[0] * 10, least[1] * 10))

    def test_a_share_too_small(self):
        for web, wants, least, laying in self.cases():
            for k, (some, share) in enumerate(laying):
                less = Fraction(*share) - Fraction(1, 10 ** 6)
                other = laying[:k] + [(some, told(less))] + laying[k + 1:]
                self.check_is_told(plainly_enough(web, wants, other), is_enough, web, wants, other, (10 ** 6, 1))
                other = laying[:k] + laying[k + 1:]
                self.check_is_told(plainly_enough(web, wants, other), is_enough, web, wants, other, (10 ** 6, 1))

    def test_each_place_is_looked_at(self):
        for web in samples.ten_place_webs() + [samples.ring(5), (1, ())]:
            n = web[0]
            single = [((place,), (1, 1)) for place in range(n)]
            self.check_is_told(True, is_enough, web, (1,) * n, single, (n, 1))
            for k in range(n):
                for share in [(1, 2), (MOST - 1, MOST)]:
                    less = single[:k] + [((k,), share)] + single[k + 1:]
                    self.check_is_told(False, is_enough, web, (1,) * n, less, (n, 1))
                self.check_is_told(False, is_enough, web, (1,) * n, single[:k] + single[k + 1:], (n, 1))
                wants = tuple(1 if place != k else 0 for place in range(n))
                self.check_is_told(True, is_enough, web, wants, single[:k] + single[k + 1:], (n, 1))

    def test_more_than_enough_and_empty_sets(self):
        web = samples.ring(4)
        laying = [((), (1, 2)), ((0,), (1, 3)), ((0, 2), (1, 1)), ((1, 3), (1, 1)), ((3,), (5, 3))]
        self.check_is_told(True, is_enough, web, (1, 1, 1, 1), laying, (9, 2))
        self.check_is_told(False, is_enough, web, (1, 1, 1, 1), laying, (449, 100))
        self.check_is_told(True, is_enough, web, (0, 0, 0, 0), [((), (1, 2))], (1, 2))
        self.check_is_told(False, is_enough, web, (0, 0, 0, 0), [((), (1, 2))], (1, 3))
        self.check_is_told(True, is_enough, web, (0, 0, 0, 0), [], (0, 1))
        self.check_is_told(True, is_enough, (0, ()), (), [], (0, 1))
        self.check_is_told(True, is_enough, (0, ()), (), [((), (1, 2))], (1, 2))
        self.check_is_told(False, is_enough, (0, ()), (), [((), (1, 2))], (0, 1))
        self.check_is_told(False, is_enough, (0, ()), (), [((0,), (1, 2))], (1, 1))

    def test_sets_that_do_not_rise(self):
        for web, wants, least, laying in self.cases():
            for k, (some, (a, b)) in enumerate(laying):
                halves = laying[:k] + [(some, (a, 2 * b))] * 2 + laying[k + 1:]
                self.check_is_told(False, is_enough, web, wants, halves, least)
                if k:
                    turned = laying[:k - 1] + [laying[k], laying[k - 1]] + laying[k + 1:]
                    self.check_is_told(False, is_enough, web, wants, turned, least)
            if len(laying) > 1:
                self.check_is_told(False, is_enough, web, wants, laying[::-1], least)

    def test_sets_that_are_not_apart(self):
        for web in [samples.ring(5), samples.petersen(), samples.mixed(7, 7, 3), samples.whole(4)]:
            n = web[0]
            for some in samples.sets_of(n):
                laying = sorted([((place,), (1, 1)) for place in range(n) if (place,) != some] + [(some, (1, 1))])
                good = samples.plainly_apart(web, some)
                self.check_is_told(good, is_enough, web, (1,) * n, laying, (n + 1, 1))

    def test_what_is_no_set(self):
        web = samples.loose(3)
        for wrong in samples.no_sets(3):
            self.check_is_told(False, is_enough, web, (0, 0, 0), [(wrong, (1, 1))], (10, 1))
            laying = [((0, 1, 2), (1, 1)), (wrong, (1, 1))]
            self.check_is_told(False, is_enough, web, (1, 1, 1), laying, (10, 1))
            self.check_is_told(False, is_enough, web, (1, 1, 1), laying[::-1], (10, 1))

    def test_what_is_no_fraction(self):
        web = samples.loose(3)
        for wrong in samples.no_fractions() + [(0, 1), (0, 5), (0, MOST)]:
            self.check_is_told(False, is_enough, web, (0, 0, 0), [((0,), wrong)], (10, 1))
            laying = [((0, 1, 2), (1, 1)), ((1,), wrong)]
            self.check_is_told(False, is_enough, web, (1, 1, 1), laying, (10, 1))
        for right in [(1, 1), (1, MOST), (MOST, MOST), (2, 4), (9, 1)]:
            self.check_is_told(True, is_enough, web, (0, 0, 0), [((0,), right)], (10, 1))

    def test_any_list_of_anything(self):
        web = samples.loose(3)
        good = ((0, 1, 2), (1, 1))
        things = samples.no_webs() + samples.no_fractions() + samples.no_sets(3)
        things += [((0,), (1, 1), (1, 1)), ((0,),), ((0,), 1, 1), [(0,), (1, 1)], ((1, 1), (0,)), ((), ()), good + good]
        for thing in things:
            self.check_is_told(False, is_enough, web, (0, 0, 0), [thing], (10, 1))
            self.check_is_told(False, is_enough, web, (1, 1, 1), [good, thing], (10, 1))
            self.check_is_told(False, is_enough, web, (1, 1, 1), [thing, good], (10, 1))
            self.check_is_told(False, is_enough, (0, ()), (), [thing], (10, 1))
        self.check_is_told(False, is_enough, web, (0, 0, 0), (), (1, 1))

    def test_many_unlike_fractions_soon(self):
        chance = Random(1024)
        sets = samples.sets_of(10)
        laying = [(some, (chance.randrange(1, MOST), MOST - k)) for k, some in enumerate(sets)]
        exactly = total(share for some, share in laying)
        high = (int(exactly * MOST) + 1, MOST)
        low = (int(exactly * MOST), MOST)
        self.assertIs(self.check_soon(is_enough, samples.loose(10), (1,) * 10, laying, high), True)
        self.assertIs(self.check_soon(is_enough, samples.loose(10), (1,) * 10, laying, low), False)

    def test_by_name(self):
        self.assertIs(is_enough(number=(1, 1), laying=[((0,), (1, 1))], wants=(1,), web=(1, ())), True)


class ArePricesTest(Checks):
    def cases(self):
        for web in [samples.ring(5), samples.path(4), samples.petersen(), samples.mixed(7, 7, 3), samples.whole(3)]:
            for wants in wants_for(web[0])[1::4]:
                least, laying, prices = shares(web, wants)
                yield web, wants, least, prices

    def test_the_told_ones(self):
        for web in samples.some_webs() + samples.small_webs():
            for wants in wants_for(web[0])[::5]:
                least, laying, prices = shares(web, wants)
                self.check_is_told(True, are_prices, web, wants, prices, least)
                for by in (2, 7, MOST // least[1]):
                    self.check_is_told(True, are_prices, web, wants, prices, (least[0] * by, least[1] * by))
                self.check_is_told(True, are_prices, web, wants, prices, (0, 1))
                self.check_is_told(True, are_prices, web, wants, prices, (0, MOST))
                for more in (Fraction(*least) + Fraction(1, 10 ** 6), Fraction(*least) + 1, Fraction(10 ** 30)):
                    self.check_is_told(False, are_prices, web, wants, prices, told(more))

    def test_not_in_lowest_terms(self):
        for web, wants, least, prices in self.cases():
            for by in (2, 3, 1000):
                self.check_is_told(True, are_prices, web, wants, [(a * by, b * by) for a, b in prices], least)
            other = [(a * (MOST // b), b * (MOST // b)) for a, b in prices]
            self.check_is_told(True, are_prices, web, wants, other, (least[0] * 10, least[1] * 10))

    def test_too_few_or_too_many(self):
        for web, wants, least, prices in self.cases():
            for wrong in [prices[1:], prices[:-1], prices + [(0, 1)], prices + [(0, 1), (0, 1)], []]:
                self.check_is_told(False, are_prices, web, wants, wrong, (0, 1))
        self.check_is_told(False, are_prices, (0, ()), (), [(0, 1)], (0, 1))
        self.check_is_told(True, are_prices, (0, ()), (), [], (0, 1))
        self.check_is_told(False, are_prices, (0, ()), (), [], (1, MOST))

    def test_prices_that_an_apart_set_outweighs(self):
        for web, wants, least, prices in self.cases():
            for place in range(web[0]):
                for more in (Fraction(1, 10 ** 6), Fraction(1, 2), Fraction(1)):
                    new = told(Fraction(*prices[place]) + more)
                    other = prices[:place] + [new] + prices[place + 1:]
                    self.check_is_told(plainly_prices(web, other), are_prices, web, wants, other, (0, 1))

    def test_each_apart_set_is_looked_at(self):
        for web in [samples.ring(5), samples.petersen(), samples.mixed(8, 7, 3), samples.mixed(6, 5, 2)]:
            n = web[0]
            for some in samples.sets_of(n):
                size = max(len(some), 1)
                just = [(1, size) if place in some else (0, 1) for place in range(n)]
                over = [(MOST // size + 1, MOST) if place in some else (0, 1) for place in range(n)]
                self.assertIs(are_prices(web, (1,) * n, just, (0, 1)), plainly_prices(web, just))
                self.assertIs(are_prices(web, (1,) * n, over, (0, 1)), plainly_prices(web, over))

    def test_worth_by_wants(self):
        web, prices = (3, ((0, 1), (0, 2), (1, 2))), [(1, 2), (2, 4), (1, 1)]
        self.check_is_told(True, are_prices, web, (3, 4, 5), prices, (17, 2))
        self.check_is_told(False, are_prices, web, (3, 4, 5), prices, (18, 2))
        self.check_is_told(True, are_prices, web, (0, 0, 1), prices, (1, 1))
        self.check_is_told(False, are_prices, web, (1, 0, 0), prices, (2, 3))

    def test_what_is_no_fraction(self):
        web = samples.whole(3)
        for wrong in samples.no_fractions():
            for k in range(3):
                prices = [(1, 3), (1, 3)]
                prices.insert(k, wrong)
                self.check_is_told(False, are_prices, web, (1, 1, 1), prices, (0, 1))
        for right in [(0, 1), (0, 7), (0, MOST), (1, 1), (1, MOST), (MOST, MOST), (2, 4)]:
            self.check_is_told(True, are_prices, web, (1, 1, 1), [(1, 3), right, (1, 3)], (0, 1))

    def test_any_list_of_anything(self):
        for thing in samples.no_webs():
            self.check_is_told(False, are_prices, (1, ()), (0,), [thing], (0, 1))
            self.check_is_told(False, are_prices, (2, ()), (0, 0), [(0, 1), thing], (0, 1))
        self.check_is_told(False, are_prices, (1, ()), (0,), ((0, 1),), (0, 1))

    def test_by_name(self):
        self.assertIs(are_prices(number=(1, 1), prices=[(1, 1)], wants=(1,), web=(1, ())), True)


class RefusedTest(Checks):
    def test_no_web(self):
        for thing in samples.no_webs():
            self.check_refused(NoWeb, value, thing)
            for wants in ((), (1, 1), (100,), (True,), [1], None):
                self.check_refused(NoWeb, shares, thing, wants)
                self.check_refused(NoWeb, is_enough, thing, wants, [], (0, 1))
                self.check_refused(NoWeb, are_prices, thing, wants, [], (0, 1))

    def test_no_wants(self):
        for web in [(0, ()), (1, ()), (3, ((0, 1),)), samples.ring(5), samples.petersen()]:
            for wants in samples.no_wants(web[0]):
                self.check_refused_unless_wants(web, wants)

    def check_refused_unless_wants(self, web, wants):
        if wants == () and web[0] == 0:
            return
        self.check_refused(NoWants, shares, web, wants)
        for things in ([], [None], [((), (1, 1))], [(0, 1)] * web[0]):
            self.check_refused(NoWants, is_enough, web, wants, things, (0, 1))
            self.check_refused(NoWants, are_prices, web, wants, things, (0, 1))


if __name__ == "__main__":
    unittest.main()
