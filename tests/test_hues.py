"""Promise 8, and what promise 2 says of it: the fewest whole hues, and floors."""

import unittest
from itertools import product

from hueshare.errors import NoWeb
from hueshare.hues import are_floors, are_hues, fewest
from tests import samples
from tests.checks import Checks


def plainly_hues(web, hues):
    return len(hues) == web[0] and min(hues, default=0) >= 0 and all(hues[i] != hues[j] for i, j in web[1])


def plainly_fewest(web):
    k = 0
    while not any(plainly_hues(web, hues) for hues in product(range(k), repeat=web[0])):
        k += 1
    return k


def first_parts(web, some):
    # The apart parts of a set that have its least place.
    parts = [tuple(some[k] for k in which) for which in samples.sets_of(len(some)) if which[:1] == (0,)]
    return [part for part in parts if samples.plainly_apart(web, part)]


def leftover(some, part):
    return tuple(place for place in some if place not in part)


def plainly_floors(web, floors):
    if set(floors) != set(samples.sets_of(web[0])) or floors[()] > 0:
        return False
    for some in floors:
        if some and any(floors[some] > 1 + floors[leftover(some, part)] for part in first_parts(web, some)):
            return False
    return True


def webs_to_look_at():
    return samples.some_webs() + samples.small_webs()


class FewestTest(Checks):
    def check(self, web, told):
        n = web[0]
        self.assertIs(type(told), tuple)
        k, hues, floors = told
        self.check_wholes(k, *hues, *floors.values())
        self.assertIs(type(hues), tuple)
        self.assertTrue(plainly_hues(web, hues), (web, hues))
        self.assertEqual(sorted(set(hues)), list(range(k)))
        self.assertIs(type(floors), dict)
        for some in floors:
            self.check_set(n, some)
        self.assertTrue(plainly_floors(web, floors), web)
        self.assertEqual(floors[tuple(range(n))], k)

    def test_hues_and_floors(self):
        for web in webs_to_look_at():
            self.check(web, fewest(web))

    def test_no_fewer(self):
        for web in samples.small_webs() + samples.all_webs(5)[::5] + [samples.mixed(6, 7, r) for r in range(1, 7)]:
            self.assertEqual(fewest(web)[0], plainly_fewest(web), web)

    def test_by_hand(self):
        self.assertEqual(fewest((0, ())), (0, (), {(): 0}))
        for n in range(1, 11):
            self.assertEqual(fewest(samples.loose(n))[:2], (1, (0,) * n))
            self.assertEqual(fewest(samples.whole(n))[0], n)
            self.assertEqual(len(fewest(samples.whole(n))[2]), 2 ** n)
        for n in range(3, 11):
            self.assertEqual(fewest(samples.ring(n))[0], 2 + n % 2)
        self.assertEqual(fewest(samples.petersen())[0], 3)

    def test_soon(self):
        for web in samples.ten_place_webs():
            k, hues, floors = self.check_soon(fewest, web)
            self.assertIs(self.check_soon(are_floors, web, floors, k), True)
            self.assertIs(self.check_soon(are_hues, web, hues), True)

    def test_told_alike(self):
        for web in [(0, ()), (1, ()), (3, ((0, 1),)), samples.ring(5), samples.petersen()]:
            self.check_told_alike(fewest, web)

    def test_by_name(self):
        self.assertEqual(fewest(web=(1, ())), (1, (0,), {(): 0, (0,): 1}))


class AreHuesTest(Checks):
    def test_the_told_ones_and_others_like_them(self):
        for web in webs_to_look_at():
            hues = fewest(web)[1]
            self.check_is_told(True, are_hues, web, hues)
            self.check_is_told(True, are_hues, web, tuple(7 * hue + 10 ** 30 for hue in hues))
            self.check_is_told(True, are_hues, web, tuple(range(web[0])))
            self.check_is_told(True, are_hues, web, tuple(range(web[0], 0, -1)))

    def test_every_tuple_of_small_webs(self):
        for web in samples.small_webs():
            for n in range(6):
                for hues in product((0, 1, 2, 5), repeat=n) if n < 5 else [(0, 1, 2, 3, 4)]:
                    self.assertIs(are_hues(web, hues), plainly_hues(web, hues), (web, hues))

    def test_a_number_too_many_or_too_few(self):
        for web in webs_to_look_at():
            hues = tuple(range(web[0]))
            self.check_is_told(False, are_hues, web, hues + (web[0],))
            self.check_is_told(False, are_hues, web, hues + (web[0], web[0] + 1))
            if hues:
                self.check_is_told(False, are_hues, web, hues[1:])
                self.check_is_told(False, are_hues, web, hues[:-1])
                self.check_is_told(False, are_hues, web, ())

    def test_a_number_below_nought(self):
        for web in webs_to_look_at():
            for place in range(web[0]):
                for low in (-1, -2, -10 ** 30):
                    hues = tuple(low if other == place else other for other in range(web[0]))
                    self.check_is_told(False, are_hues, web, hues)

    def test_tied_places_alike(self):
        for web in webs_to_look_at():
            for one, other in web[1]:
                hues = tuple(one if place == other else place for place in range(web[0]))
                self.check_is_told(False, are_hues, web, hues)

    def test_truths_are_no_whole_numbers(self):
        self.check_is_told(False, are_hues, (2, ((0, 1),)), (False, True))
        self.check_is_told(False, are_hues, (1, ()), (True,))
        self.check_is_told(False, are_hues, (2, ()), [0, 1])

    def test_no_web(self):
        for thing in samples.no_webs():
            self.check_refused(NoWeb, are_hues, thing, ())
            self.check_refused(NoWeb, are_hues, thing, (-1, 0))
            self.check_refused(NoWeb, fewest, thing)

    def test_by_name(self):
        self.assertIs(are_hues(hues=(1, 0), web=(2, ((0, 1),))), True)


class AreFloorsTest(Checks):
    def test_the_told_ones(self):
        for web in webs_to_look_at():
            k, hues, floors = fewest(web)
            for number in (k, k - 1, 0, -1, -10 ** 30):
                self.assertIs(are_floors(web, floors, number), True)
            self.check_is_told(False, are_floors, web, floors, k + 1)
            self.check_is_told(False, are_floors, web, floors, 10 ** 30)

    def test_lower_floors(self):
        for web in webs_to_look_at():
            flat = {some: 0 for some in samples.sets_of(web[0])}
            self.assertIs(are_floors(web, flat, 0), True)
            self.assertIs(are_floors(web, flat, 1), False)
            low = {some: -10 ** 30 for some in flat}
            self.assertIs(are_floors(web, low, -10 ** 30), True)
            self.assertIs(are_floors(web, low, 1 - 10 ** 30), False)
            if web[0]:
                steps = dict(flat)
                steps[tuple(range(web[0]))] = 1
                self.assertIs(are_floors(web, steps, 1), True)

    def webs(self):
        return samples.small_webs() + [samples.ring(5), samples.mixed(6, 7, 3), samples.mixed(6, 7, 5)]

    def test_a_key_left_out_put_to_them_or_exchanged(self):
        for web in self.webs():
            k, hues, floors = fewest(web)
            n = web[0]
            for some in floors:
                left = dict(floors)
                floor = left.pop(some)
                self.check_is_told(False, are_floors, web, left, 0)
                self.check_is_told(False, are_floors, web, left, -9)
                for key in [(n,), (-1,), some + (n,), (n + 1,) + some, (0, 0), some + (0,), some + some[:1] + (0,)]:
                    if key not in floors:
                        self.check_is_told(False, are_floors, web, {**floors, key: floor}, 0)
                        self.check_is_told(False, are_floors, web, {**left, key: floor}, -9)
                if len(some) > 1:
                    self.check_is_told(False, are_floors, web, {**left, some[::-1]: floor}, 0)
            self.check_is_told(False, are_floors, web, {}, -9)

    def test_keys_of_another_web(self):
        for n in range(5):
            for m in range(5):
                floors = {some: 0 for some in samples.sets_of(m)}
                self.check_is_told(n == m, are_floors, samples.loose(n), floors, 0)

    def test_a_floor_too_great(self):
        for web in self.webs():
            k, hues, floors = fewest(web)
            for some in floors:
                for more in (1, 2, 10 ** 30):
                    wrong = dict(floors)
                    wrong[some] += more
                    self.check_is_told(False, are_floors, web, wrong, 0)
                    self.check_is_told(False, are_floors, web, wrong, -9)

    def test_each_floor_changed_against_a_plain_look(self):
        for web in samples.small_webs()[::3]:
            k, hues, floors = fewest(web)
            for some in floors:
                for other in floors:
                    for less in (1, 2):
                        new = dict(floors)
                        new[other] -= less
                        new[some] += 1
                        self.assertIs(are_floors(web, new, -9), plainly_floors(web, new), (web, new))
                less = dict(floors)
                less[some] -= 1
                self.assertIs(are_floors(web, less, -9), plainly_floors(web, less), (web, less))

    def test_every_apart_part_is_looked_at(self):
        # The floor of what is left by one apart part alone is low: then the floor of all is too great.
        web = (3, ())
        for part in [(0,), (0, 1), (0, 2)]:
            floors = {some: 1 if some else 0 for some in samples.sets_of(3)}
            floors[leftover((0, 1, 2), part)] = -5
            self.check_is_told(False, are_floors, web, floors, -9)
            floors[(0, 1, 2)] = -4
            self.assertIs(are_floors(web, floors, -9), plainly_floors(web, floors))

    def test_a_part_without_the_least_place_is_not_asked(self):
        # What is left of (0, 1) without (1,) has the floor -3, but (1,) hasn't the least place.
        floors = {(): 0, (0,): -3, (1,): 1, (0, 1): 1}
        self.check_is_told(True, are_floors, (2, ()), floors, 1)
        self.check_is_told(True, are_floors, (2, ((0, 1),)), {**floors, (0, 1): 2}, 2)

    def test_without_places(self):
        self.check_is_told(True, are_floors, (0, ()), {(): 0}, 0)
        self.check_is_told(True, are_floors, (0, ()), {(): -1}, -1)
        self.check_is_told(False, are_floors, (0, ()), {(): -1}, 0)
        self.check_is_told(False, are_floors, (0, ()), {(): 1}, 0)
        self.check_is_told(False, are_floors, (0, ()), {}, 0)

    def test_truths_are_no_whole_numbers(self):
        self.check_is_told(False, are_floors, (0, ()), {(): False}, 0)
        self.check_is_told(False, are_floors, (2, ()), {(): 0, (0,): 0, (True,): 0, (0, 1): 0}, 0)
        self.check_is_told(False, are_floors, (0, ()), [()], 0)

    def test_no_web(self):
        for thing in samples.no_webs():
            self.check_refused(NoWeb, are_floors, thing, {(): 0}, 0)
            self.check_refused(NoWeb, are_floors, thing, {}, 10 ** 30)

    def test_by_name(self):
        self.assertIs(are_floors(number=1, floors={(): 0, (0,): 1}, web=(1, ())), True)


if __name__ == "__main__":
    unittest.main()
