"""Promises 14 and 15, and what promise 2 says of them: folds, bare rings, and hues by a fold."""

import unittest
from itertools import permutations, product

from hueshare.apart import greatest_crowd
from hueshare.errors import NoFold, NoWeb
from hueshare.folds import by_fold, fold, is_bare_ring, is_fold
from hueshare.hues import fewest
from hueshare.made import cut_down, other_web
from hueshare.shapes import ring
from hueshare.shares import value
from tests import samples
from tests.checks import Checks

OF_A_WEB = [fold, by_fold]


def are_unlike_places(web, things):
    return all(type(thing) is int and 0 <= thing < web[0] for thing in things) and len(set(things)) == len(things)


def plainly_fold(web, order):
    if len(order) != web[0] or not are_unlike_places(web, order):
        return False
    for k, place in enumerate(order):
        behind = [other for other in order[k + 1:] if samples.plainly_tied(web, place, other)]
        if not samples.plainly_crowd(web, behind):
            return False
    return True


def plainly_bare_ring(web, some):
    if len(some) < 4 or not are_unlike_places(web, some):
        return False
    around = {frozenset((some[k - 1], some[k])) for k in range(len(some))}
    return all(samples.plainly_tied(web, i, j) == (frozenset((i, j)) in around) for i, j in samples.pairs(some))


def has_fold(web):
    return any(plainly_fold(web, order) for order in permutations(range(web[0])))


def has_bare_ring(web):
    # A ring may begin anywhere: so it is enough to look at those that begin with their least place.
    n = web[0]
    for some in samples.sets_of(n):
        if len(some) > 3 and any(plainly_bare_ring(web, some[:1] + rest) for rest in permutations(some[1:])):
            return True
    return False


def webs_with_a_fold():
    made = samples.folded_webs(range(1, 11), 14)
    return made + [(0, ())] + [make(n) for make in (samples.loose, samples.whole, samples.path) for n in range(1, 11)]


def webs_with_a_ring():
    rings = [ring(n) for n in range(4, 11)] + [other_web(ring(n)) for n in range(5, 11)]
    return rings + [samples.petersen(), (10, ring(4)[1]), (10, tuple((i + 6, j + 6) for i, j in ring(4)[1]))]


def webs_to_look_at():
    webs = samples.some_webs() + samples.small_webs() + samples.drawn_webs(range(5, 11), 15)
    return webs + webs_with_a_fold() + webs_with_a_ring()


class FoldTest(Checks):
    def check(self, web):
        told = fold(web)
        self.assertIs(type(told), tuple)
        kind, places = told
        self.assertIn(kind, ("fold", "ring"))
        self.check_wholes(*places)
        if kind == "fold":
            self.assertIs(type(places), tuple)
            self.assertTrue(plainly_fold(web, places), (web, told))
            self.check_is_told(True, is_fold, web, places)
        else:
            self.assertIs(type(places), list)
            self.assertTrue(plainly_bare_ring(web, places), (web, told))
            self.check_is_told(True, is_bare_ring, web, places)
        return kind

    def test_an_order_or_a_ring(self):
        kinds = [self.check(web) for web in webs_to_look_at()]
        self.assertGreater(kinds.count("fold"), 100)
        self.assertGreater(kinds.count("ring"), 50)

    def test_just_one_of_both_by_all_orders_and_all_rings(self):
        webs = samples.small_webs() + samples.all_webs(5)[::4] + samples.drawn_webs([6] * 5, 16)
        for web in webs + samples.folded_webs([6], 17):
            kind = self.check(web)
            self.assertEqual(kind == "fold", has_fold(web), web)
            self.assertEqual(kind == "ring", has_bare_ring(web), web)

    def test_every_web_of_five_places(self):
        for web in samples.all_webs(5):
            self.check(web)

    def test_which_of_both(self):
        for web in webs_with_a_fold():
            self.assertEqual(fold(web)[0], "fold", web)
        for web in webs_with_a_ring():
            self.assertEqual(fold(web)[0], "ring", web)

    def test_by_hand(self):
        self.assertEqual(fold((0, ())), ("fold", ()))
        self.assertEqual(fold((1, ())), ("fold", (0,)))
        self.assertEqual(fold(ring(3))[0], "fold")
        for n in range(4, 11):
            self.assertEqual(sorted(fold(ring(n))[1]), list(range(n)))
        self.assertEqual(sorted(fold((7, ring(4)[1] + ((3, 4), (4, 5), (4, 6), (5, 6))))[1]), [0, 1, 2, 3])

    def test_told_alike_soon_and_by_name(self):
        for web in [(0, ()), (1, ()), samples.path(4), ring(4), ring(5), samples.petersen()]:
            self.check_told_alike(fold, web)
        for web in samples.ten_place_webs():
            self.check_soon(fold, web)
        self.assertEqual(fold(web=(1, ())), ("fold", (0,)))


class IsFoldTest(Checks):
    def test_every_order_of_small_webs(self):
        for web in samples.small_webs() + samples.all_webs(5)[::60] + [ring(5), samples.path(5)]:
            for order in permutations(range(web[0])):
                self.check_is_told(plainly_fold(web, order), is_fold, web, order)

    def test_any_small_tuple_of_numbers_and_truths(self):
        things = (-1, 0, 1, 2, 3, True, False)
        for web in samples.all_webs(0) + samples.all_webs(1) + samples.all_webs(2) + samples.all_webs(3):
            for size in range(5):
                for some in product(things, repeat=size):
                    self.assertIs(is_fold(web, some), plainly_fold(web, some), (web, some))

    def test_each_way_to_fail(self):
        for web in webs_with_a_fold():
            n = web[0]
            order = fold(web)[1]
            for wrong in [order + (n,), order + (0,), order + order + (0,), (-1,) + order, order + (True,)]:
                self.check_is_told(False, is_fold, web, wrong)
            for k in range(n):
                left, right = order[:k], order[k + 1:]
                self.check_is_told(False, is_fold, web, left + right)
                self.check_is_told(False, is_fold, web, order + order)
                for thing in [n, n + 1, -1, -n, order[k] - n, 10 ** 30, -10 ** 30, True, False]:
                    self.check_is_told(False, is_fold, web, left + (thing,) + right)
                for other in left + right:
                    self.check_is_told(False, is_fold, web, left + (other,) + right)

    def test_a_tie_too_many_or_too_few(self):
        seen = []
        for web in samples.folded_webs([6, 10], 18):
            order = fold(web)[1]
            for tie in samples.pairs(range(web[0])):
                other = (web[0], tuple(sorted(set(web[1]) ^ {tie})))
                seen.append(plainly_fold(other, order))
                self.check_is_told(seen[-1], is_fold, other, order)
        self.assertGreater(seen.count(False), 100)
        self.assertGreater(seen.count(True), 100)

    def test_the_neighbours_behind_are_asked_and_not_those_ahead(self):
        star = (3, ((0, 1), (0, 2)))
        self.check_is_told(True, is_fold, star, (1, 2, 0))
        self.check_is_told(True, is_fold, star, (1, 0, 2))
        self.check_is_told(False, is_fold, star, (0, 1, 2))

    def test_no_order_where_there_is_a_ring(self):
        for web in webs_with_a_ring():
            if web[0] < 7:
                self.assertFalse(any(is_fold(web, order) for order in permutations(range(web[0]))))
            self.check_is_told(False, is_fold, web, tuple(range(web[0])))

    def test_no_tuple_and_by_name(self):
        self.check_is_told(False, is_fold, (2, ()), [0, 1])
        self.assertIs(is_fold(order=(1, 0), web=(2, ())), True)


class IsBareRingTest(Checks):
    def test_every_list_of_small_webs(self):
        for web in samples.all_webs(4):
            for size in range(6):
                for some in permutations(range(4), size) if size < 5 else [(0, 1, 2, 3, 0)]:
                    self.check_is_told(plainly_bare_ring(web, some), is_bare_ring, web, list(some))
        for web in samples.all_webs(5)[::9] + [ring(5)]:
            for size in (4, 5):
                for some in permutations(range(5), size):
                    self.assertIs(is_bare_ring(web, list(some)), plainly_bare_ring(web, some), (web, some))

    def test_any_small_list_of_numbers_and_truths(self):
        things = (-1, 0, 1, 2, 3, 4, True, False)
        for web in [(0, ()), (2, ((0, 1),)), ring(3), ring(4), (4, ((0, 2), (0, 3), (1, 2), (1, 3))), samples.path(4)]:
            for size in range(5):
                for some in product(things, repeat=size):
                    self.assertIs(is_bare_ring(web, list(some)), plainly_bare_ring(web, some), (web, some))

    def test_turned_and_begun_elsewhere(self):
        for web in webs_with_a_ring():
            places = fold(web)[1]
            for k in range(len(places)):
                turned = places[k:] + places[:k]
                self.check_is_told(True, is_bare_ring, web, turned)
                self.check_is_told(True, is_bare_ring, web, turned[::-1])
                moved = list(places)
                moved[k - 1], moved[k] = moved[k], moved[k - 1]
                self.check_is_told(False, is_bare_ring, web, moved)

    def test_each_way_to_fail(self):
        for web in webs_with_a_ring():
            n = web[0]
            places = fold(web)[1]
            for wrong in [places + places, places + places[:1], places + [n], [-1] + places, places + [True], []]:
                self.check_is_told(False, is_bare_ring, web, wrong)
            for k in range(len(places)):
                left, right = places[:k], places[k + 1:]
                self.check_is_told(False, is_bare_ring, web, left + right)
                for thing in [n, n + 1, -1, -n, places[k] - n, 10 ** 30, -10 ** 30, True, False]:
                    self.check_is_told(False, is_bare_ring, web, left + [thing] + right)
                for other in left + right:
                    self.check_is_told(False, is_bare_ring, web, left + [other] + right)

    def test_a_tie_too_many_or_too_few(self):
        for web in webs_with_a_ring():
            n, ties = web
            places = fold(web)[1]
            for tie in samples.pairs(range(n)):
                other = (n, tuple(sorted(set(ties) ^ {tie})))
                within_it = tie[0] in places and tie[1] in places
                self.check_is_told(not within_it, is_bare_ring, other, places)

    def test_three_places_and_fewer(self):
        for web in [ring(3), samples.whole(10), ring(4)]:
            for some in ([], [0], [0, 1], [0, 1, 2], [2, 1, 0]):
                self.check_is_told(False, is_bare_ring, web, some)

    def test_two_rings_are_none(self):
        two = (8, ring(4)[1] + tuple((i + 4, j + 4) for i, j in ring(4)[1]))
        self.check_is_told(False, is_bare_ring, two, [0, 1, 2, 3, 4, 5, 6, 7])
        self.check_is_told(True, is_bare_ring, two, [4, 5, 6, 7])

    def test_no_list_and_by_name(self):
        self.check_is_told(False, is_bare_ring, ring(4), (0, 1, 2, 3))
        self.assertIs(is_bare_ring(some=[0, 1, 2, 3], web=ring(4)), True)


class ByFoldTest(Checks):
    def check(self, web):
        told = by_fold(web)
        self.assertIs(type(told), tuple)
        k, hues, crowd = told
        self.check_wholes(k, *hues)
        self.assertIs(type(hues), tuple)
        self.assertEqual(len(hues), web[0])
        self.assertGreaterEqual(min(hues, default=0), 0)
        self.assertTrue(all(hues[i] != hues[j] for i, j in web[1]), (web, hues))
        self.assertEqual(sorted(set(hues)), list(range(k)))
        self.check_set(web[0], crowd)
        self.assertTrue(samples.plainly_crowd(web, crowd), (web, crowd))
        self.assertEqual(len(crowd), k)
        self.assertEqual(crowd, greatest_crowd(web))
        return k

    def test_crowd_value_and_hues_are_one(self):
        for web in webs_with_a_fold():
            k = self.check(web)
            self.assertEqual(k, fewest(web)[0], web)
            self.assertEqual((k, 1), value(web), web)

    def test_told_or_refused_just_as_fold_tells(self):
        for web in webs_to_look_at() + samples.all_webs(5)[::3]:
            if fold(web)[0] == "fold":
                self.check(web)
            else:
                self.check_refused(NoFold, by_fold, web)

    def test_every_web_that_can_be_cut_out(self):
        for web in samples.folded_webs([6, 7], 19):
            for some in samples.sets_of(web[0]):
                cut = cut_down(web, some)
                self.assertEqual(self.check(cut), fewest(cut)[0])
        for web in samples.folded_webs([10], 20):
            for some in samples.sets_of(10)[::13]:
                self.assertEqual((self.check(cut_down(web, some)), 1), value(cut_down(web, some)))

    def test_by_hand(self):
        self.assertEqual(by_fold((0, ())), (0, (), ()))
        self.assertEqual(by_fold((1, ())), (1, (0,), (0,)))
        for n in range(1, 11):
            self.assertEqual(by_fold(samples.loose(n)), (1, (0,) * n, (0,)))
            self.assertEqual(by_fold(samples.whole(n))[::2], (n, tuple(range(n))))
            self.assertEqual(sorted(by_fold(samples.whole(n))[1]), list(range(n)))

    def test_told_alike_soon_and_by_name(self):
        for web in [(0, ()), (1, ()), samples.path(4), samples.whole(5)] + samples.folded_webs([10], 21):
            self.check_told_alike(by_fold, web)
            self.check_soon(by_fold, web)
        self.assertEqual(by_fold(web=(1, ())), (1, (0,), (0,)))


class RefusedTest(Checks):
    def test_no_web(self):
        for thing in samples.no_webs():
            for asked in OF_A_WEB:
                self.check_refused(NoWeb, asked, thing)
            for order in ((), (0, 1), (1, 0), (-1,), (True,)):
                self.check_refused(NoWeb, is_fold, thing, order)
                self.check_refused(NoWeb, is_bare_ring, thing, list(order))
            self.check_refused(NoWeb, is_bare_ring, thing, [0, 1, 2, 3])


if __name__ == "__main__":
    unittest.main()
