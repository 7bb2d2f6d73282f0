"""Promise 18, and what promise 2 says of it: turnings, and webs alike everywhere."""

import unittest
from fractions import Fraction
from itertools import permutations
from math import factorial

from hueshare.errors import NoWeb, TooMany
from hueshare.made import across, beside, other_web, within
from hueshare.shapes import picks, ring
from hueshare.shares import value
from hueshare.turnings import alike_value, is_alike, turnings
from hueshare.ways import is_way
from tests import samples
from tests.checks import Checks, refusal_of

OF_A_WEB = [turnings, is_alike, alike_value]


def is_turning(web, order):
    kept = {tuple(sorted((order[i], order[j]))) for i, j in web[1]}
    return kept == set(web[1])


def plainly_turnings(web):
    return [order for order in permutations(range(web[0])) if is_turning(web, order)]


def goes_on(web, begun):
    # Whether an order that is begun so can be ended as a turning.
    place = len(begun)
    if place == web[0]:
        return True
    ties = [sum(other in tie for tie in web[1]) for other in range(web[0])]
    for image in range(web[0]):
        fits = image not in begun and ties[image] == ties[place]
        if fits and all(samples.plainly_tied(web, begun[k], image) == samples.plainly_tied(web, k, place)
                        for k in range(place)) and goes_on(web, begun + (image,)):
            return True
    return False


def can_be_led(web, place, image):
    # Whether a turning leads the place to the image and each place ahead of it to itself.
    begun = tuple(range(place)) + (image,)
    ties = [sum(other in tie for tie in web[1]) for other in range(web[0])]
    same = all(samples.plainly_tied(web, k, image) == samples.plainly_tied(web, k, place) for k in range(place))
    return image >= place and ties[image] == ties[place] and same and goes_on(web, begun)


def number_of_turnings(web):
    # Place by place, as many times more as there are places that it can be led to with those ahead of it held.
    number = 1
    for place in range(web[0]):
        number *= sum(can_be_led(web, place, image) for image in range(web[0]))
    return number


def plainly_alike(web, orders):
    led = {(place, order[place]) for order in orders for place in range(web[0])}
    return len(led) == web[0] ** 2


def star(leaves, tail=0):
    # A middle with leaves, and a tail of places behind them.
    ties = [(0, leaf) for leaf in range(1, leaves + 1)]
    ends = [0] + list(range(leaves + 1, leaves + tail + 1))
    return (1 + leaves + tail, tuple(sorted(ties + list(zip(ends, ends[1:])))))


def webs_by_number():
    # Webs, each with the number of its turnings.
    rings = [(ring(n), 2 * n) for n in range(3, 11)]
    paths = [(samples.path(n), 2) for n in range(2, 11)]
    loose = [(samples.loose(n), factorial(n)) for n in range(7)] + [(samples.whole(n), factorial(n)) for n in range(7)]
    others = [
        (samples.petersen(), 120), (picks(5, 2), 120), (picks(4, 1), 24), (picks(4, 2), 48), (picks(6, 1), 720),
        (across(samples.loose(3), samples.loose(5)), 720), (across(samples.loose(3), samples.loose(4)), 144),
        (beside(ring(5), ring(5)), 200), (beside(ring(4), ring(6)), 96), (within(ring(5), samples.whole(2)), 320),
        (star(6), 720), (star(6, 3), 720), (star(5, 4), 120), (star(3, 2), 6), (star(3), 6),
    ]
    return rings + paths + loose + others


def webs_with_too_many():
    loose = [samples.loose(n) for n in range(7, 11)] + [samples.whole(n) for n in range(7, 11)]
    crossed = [across(samples.loose(n), samples.loose(m)) for n, m in [(4, 4), (4, 5), (5, 5), (3, 6), (2, 6), (1, 7)]]
    others = [beside(star(6), samples.path(3)), beside((10 - 6, ((0, 1), (2, 3))), samples.loose(6)), star(7), star(9)]
    return loose + crossed + others + [within(samples.loose(5), samples.whole(2)), (10, ((0, 1),)), (8, ((3, 5),))]


def alike_webs():
    webs = [ring(n) for n in range(3, 11)] + [samples.loose(n) for n in range(11)]
    webs += [samples.whole(n) for n in range(11)] + [samples.petersen(), picks(4, 2), beside(ring(5), ring(5))]
    webs += [across(samples.loose(n), samples.loose(n)) for n in range(1, 6)]
    webs += [within(ring(5), samples.whole(2)), within(samples.loose(5), samples.whole(2)), across(ring(5), ring(5))]
    webs += [beside(samples.whole(5), samples.whole(5)), (6, ((0, 1), (0, 2), (0, 3), (1, 2), (1, 4), (2, 5), (3, 4),
                                                              (3, 5), (4, 5)))]
    return webs + [other_web(web) for web in webs]


def webs_not_alike():
    webs = [samples.path(n) for n in range(3, 11)] + [star(n) for n in range(2, 10)] + [(10, ((0, 1),)), (3, ((1, 2),))]
    # Here each place has as many ties as any other one.
    webs += [beside(ring(3), ring(4)), beside(ring(4), ring(6)), beside(ring(3), ring(7)), beside(ring(6), ring(4))]
    webs += [beside(samples.path(2), ring(3)), across(samples.loose(4), samples.loose(5))]
    return webs + [other_web(web) for web in webs]


class TurningsTest(Checks):
    def check(self, web):
        told = turnings(web)
        self.assertIs(type(told), list)
        for order in told:
            self.assertIs(type(order), tuple)
            self.check_wholes(*order)
            self.assertEqual(sorted(order), list(range(web[0])))
            self.assertTrue(is_turning(web, order), (web, order))
            self.assertIs(is_way(web, web, order), True)
        self.assertEqual(told, sorted(set(told)))
        return told

    def test_small_webs_by_all_orders(self):
        webs = samples.small_webs() + samples.all_webs(5)[::6] + samples.drawn_webs([6] * 2, 31)
        for web in webs + [ring(6), star(5), samples.mixed(6, 5, 3), samples.path(6)]:
            self.assertEqual(self.check(web), plainly_turnings(web), web)

    def test_seven_places_by_all_orders(self):
        for web in samples.drawn_webs([7], 32)[1::3] + [ring(7), star(3, 3), beside(ring(3), ring(4)), star(6)]:
            self.assertEqual(self.check(web), plainly_turnings(web), web)

    def test_by_number(self):
        for web, number in webs_by_number():
            self.assertEqual(len(self.check(web)), number, web)
            self.assertEqual(turnings(other_web(web)), turnings(web))

    def test_their_number_and_whether_they_are_too_many(self):
        told = []
        for web in samples.some_webs() + samples.drawn_webs(range(7, 11), 36):
            number = number_of_turnings(web)
            told.append(number > 720)
            if told[-1]:
                self.check_refused(TooMany, turnings, web)
            else:
                self.assertEqual(len(self.check(web)), number, web)
        self.assertGreater(told.count(True), 10)
        self.assertGreater(told.count(False), 50)

    def test_ten_places_named_anew(self):
        # Named anew, a web has as many turnings, and they are its old ones under the new names.
        for web in samples.drawn_webs([10], 33)[2:8] + [samples.petersen(), star(4, 5), ring(10)]:
            names = (3, 1, 4, 0, 5, 9, 2, 6, 8, 7)
            told = self.check(web)
            renamed = [tuple(names[order[names.index(place)]] for place in range(10)) for order in told]
            self.assertEqual(self.check(samples.renamed(web, names)), sorted(renamed))

    def test_by_hand(self):
        self.assertEqual(turnings((0, ())), [()])
        self.assertEqual(turnings((1, ())), [(0,)])
        self.assertEqual(turnings((2, ())), [(0, 1), (1, 0)])
        self.assertEqual(turnings((3, ((0, 1),))), [(0, 1, 2), (1, 0, 2)])
        ring_of_four = [(0, 1, 2, 3), (0, 3, 2, 1), (1, 0, 3, 2), (1, 2, 3, 0)]
        self.assertEqual(turnings(ring(4))[:4], ring_of_four)
        self.assertEqual(turnings(samples.path(4)), [(0, 1, 2, 3), (3, 2, 1, 0)])

    def test_too_many_for_the_list_alone(self):
        for web in webs_with_too_many():
            self.assertGreater(number_of_turnings(web), 720, web)
            self.check_refused(TooMany, turnings, web)
            self.assertIn(is_alike(web), (True, False))
            alike_value(web)

    def test_told_alike_soon_and_by_name(self):
        for web in [(0, ()), (1, ()), samples.loose(4), ring(5), samples.petersen()]:
            self.check_told_alike(turnings, web)
        for web in samples.ten_place_webs() + samples.drawn_webs([10], 34) + [star(6, 3)] + webs_with_too_many():
            self.check_soon(refusal_of, turnings, (web,))
        self.assertEqual(turnings(web=(1, ())), [(0,)])

    def test_webs_with_many_orders_begun_in_vain_soon(self):
        # The first places are alike as far as they go, and what sets them apart comes at the end.
        one = (10, ((1, 8), (2, 8), (3, 8), (4, 8), (5, 8), (6, 8), (6, 9), (7, 8)))
        other = (10, ((0, 9), (2, 7), (6, 7)))

        def numbers():
            return [(len(turnings(web)), is_alike(web)) for web in (one, other)]
        self.assertEqual(self.check_soon(numbers), [(720, False), (480, False)])


class IsAlikeTest(Checks):
    def check_value(self, web, is_told):
        told = alike_value(web)
        if not is_told:
            self.assertIsNone(told, web)
            return
        self.check_fraction(told)
        most = len(samples.plainly_greatest(web, samples.plainly_apart))
        self.assertEqual(Fraction(*told), Fraction(web[0], most) if web[0] else 0, web)
        self.assertEqual(told, value(web))

    def check(self, web, is_told):
        self.check_is_told(is_told, is_alike, web)
        self.check_value(web, is_told)

    def test_small_webs_by_all_orders(self):
        for web in samples.small_webs() + samples.all_webs(5)[::3] + samples.drawn_webs([6] * 2, 35):
            self.check(web, plainly_alike(web, plainly_turnings(web)))

    def test_alike(self):
        for web in alike_webs():
            self.check(web, True)

    def test_not_alike(self):
        for web in webs_not_alike():
            self.check(web, False)

    def test_named_anew(self):
        for web in alike_webs() + webs_not_alike():
            names = sorted(range(web[0]), key=lambda place: (place * 7 + 3) % 10)
            self.check(samples.renamed(web, names), web in alike_webs())

    def test_as_the_turnings_tell(self):
        for web in samples.drawn_webs(range(7, 11), 36) + [web for web, number in webs_by_number()]:
            if number_of_turnings(web) <= 720:
                self.check(web, plainly_alike(web, turnings(web)))
            else:
                self.check(web, all(can_be_led(web, 0, image) for image in range(web[0])))

    def test_by_hand(self):
        self.assertEqual(alike_value((0, ())), (0, 1))
        self.assertEqual(alike_value((1, ())), (1, 1))
        self.assertEqual(alike_value(samples.loose(10)), (1, 1))
        self.assertEqual(alike_value(samples.whole(10)), (10, 1))
        self.assertEqual(alike_value(samples.petersen()), (5, 2))
        self.assertEqual(alike_value(ring(7)), (7, 3))
        self.assertIsNone(alike_value(samples.path(3)))

    def test_told_alike_soon_and_by_name(self):
        for web in [(0, ()), ring(5), samples.path(3)]:
            self.check_told_alike(is_alike, web)
            self.check_told_alike(alike_value, web)
        for web in samples.ten_place_webs() + webs_with_too_many() + samples.drawn_webs([10], 37):
            self.check_soon(is_alike, web)
            self.check_soon(alike_value, web)
        self.assertIs(is_alike(web=(1, ())), True)
        self.assertEqual(alike_value(web=(1, ())), (1, 1))


class RefusedTest(Checks):
    def test_no_web(self):
        for thing in samples.no_webs():
            for asked in OF_A_WEB:
                self.check_refused(NoWeb, asked, thing)


if __name__ == "__main__":
    unittest.main()
