"""Promise 22, and what promise 2 says of it: needed places and parts."""

import unittest
from fractions import Fraction

from hueshare.errors import NoWeb
from hueshare.made import cut_down
from hueshare.parts import held_part, is_part, needed
from hueshare.shapes import grown, ring
from hueshare.shares import value
from tests import samples
from tests.checks import Checks


class Worths:
    # The value of a web cut down to each set, looked up once.
    def __init__(self, web):
        self.of = {some: Fraction(*value(cut_down(web, some))) for some in samples.sets_of(web[0])}
        self.every = tuple(range(web[0]))

    def needed(self, some):
        lesser = [k for k in range(len(some)) if self.of[some[:k] + some[k + 1:]] < self.of[some]]
        return tuple(some[k] for k in lesser)

    def parts(self):
        return [some for some in self.of if self.of[some] == self.of[self.every] and self.needed(some) == some]


def webs_to_look_at():
    webs = samples.small_webs() + samples.all_webs(5)[::37] + [ring(n) for n in range(3, 8)]
    webs += [samples.mixed(n, 7, r) for n in (6, 7) for r in (2, 3, 5)] + [grown(ring(3)), grown((2, ((0, 1),)))]
    return webs + [samples.loose(7), samples.whole(6), samples.path(6)]


class PartsTest(Checks):
    def check(self, web):
        worths = Worths(web)
        parts = worths.parts()
        must = needed(web)
        held = held_part(web)
        self.check_set(web[0], must)
        self.check_set(web[0], held)
        self.assertEqual(must, worths.needed(worths.every), web)
        self.assertIn(held, parts, web)
        for some in parts:
            self.assertLessEqual(set(must), set(some), web)
        for some in samples.sets_of(web[0]):
            self.check_is_told(some in parts, is_part, web, some)

    def test_against_the_webs_cut_down(self):
        for web in webs_to_look_at():
            self.check(web)

    def test_ten_places(self):
        for web in samples.ten_place_webs():
            must = self.check_soon(needed, web)
            held = self.check_soon(held_part, web)
            self.check_set(10, must)
            self.check_set(10, held)
            self.assertIs(self.check_soon(is_part, web, held), True)
            self.assertLessEqual(set(must), set(held))
            self.assertEqual(value(cut_down(web, held)), value(web))
            for k in range(len(held)):
                self.assertNotEqual(value(cut_down(web, held[:k] + held[k + 1:])), value(web))
                self.check_is_told(False, is_part, web, held[:k] + held[k + 1:])
            for place in range(10):
                others = tuple(other for other in range(10) if other != place)
                self.assertEqual(place in must, value(cut_down(web, others)) != value(web))

    def test_without_ties_and_without_places(self):
        self.assertEqual(needed((0, ())), ())
        self.assertEqual(held_part((0, ())), ())
        self.assertIs(is_part((0, ()), ()), True)
        self.assertEqual(needed((1, ())), (0,))
        self.assertEqual(held_part((1, ())), (0,))
        for n in range(2, 11):
            web = samples.loose(n)
            self.assertEqual(needed(web), ())
            self.assertEqual(len(held_part(web)), 1)
            self.assertIs(is_part(web, ()), False)
            self.assertIs(is_part(web, (0, 1)), False)
            for place in range(n):
                self.assertIs(is_part(web, (place,)), True)

    def test_by_hand(self):
        for n in range(1, 11):
            self.assertEqual(needed(samples.whole(n)), tuple(range(n)))
            self.assertEqual(held_part(samples.whole(n)), tuple(range(n)))
        for n in (5, 7, 9):
            self.assertEqual(needed(ring(n)), tuple(range(n)))
            self.assertEqual(held_part(ring(n)), tuple(range(n)))
        tail = (6, ring(5)[1] + ((4, 5),))
        self.assertEqual(needed(tail), (0, 1, 2, 3, 4))
        self.assertEqual(held_part(tail), (0, 1, 2, 3, 4))
        self.assertIs(is_part(tail, (0, 1, 2, 3, 4, 5)), False)
        self.assertIs(is_part(ring(4), (0, 3)), True)
        self.assertIs(is_part(ring(4), (0, 2)), False)

    def test_any_tuple_of_whole_numbers(self):
        for web in [(0, ()), (1, ()), (2, ((0, 1),)), samples.loose(3), ring(5)]:
            n = web[0]
            part = held_part(web)
            for wrong in [part + (n,), (-1,) + part, part + part[-1:] if part else (0, 0), (n,), (-1,), (10 ** 30,),
                          (-10 ** 30,), (0, 0), (n, 0), (11,)]:
                self.check_is_told(False, is_part, web, wrong)
            if len(part) > 1:
                self.check_is_told(False, is_part, web, part[::-1])
        self.check_is_told(False, is_part, (2, ((0, 1),)), (False, True))
        self.check_is_told(False, is_part, (2, ((0, 1),)), [0, 1])

    def test_no_web(self):
        for thing in samples.no_webs():
            self.check_refused(NoWeb, needed, thing)
            self.check_refused(NoWeb, held_part, thing)
            for some in ((), (0,), (1, 0), (-1,)):
                self.check_refused(NoWeb, is_part, thing, some)

    def test_told_alike(self):
        for web in [(0, ()), (1, ()), samples.loose(3), ring(5), samples.petersen()]:
            self.check_told_alike(needed, web)
            self.check_told_alike(held_part, web)

    def test_by_name(self):
        self.assertEqual(needed(web=(1, ())), (0,))
        self.assertEqual(held_part(web=(1, ())), (0,))
        self.assertIs(is_part(some=(0,), web=(1, ())), True)


if __name__ == "__main__":
    unittest.main()
