"""Promise 4, and what promise 2 says of it: what a web is, its ties and neighbours."""

import copy
import unittest

from hueshare.webs import are_tied, is_web, neighbours
from tests import samples


class IsWebTest(unittest.TestCase):
    def test_webs(self):
        for web in samples.some_webs() + samples.small_webs():
            with self.subTest(web=web):
                self.assertIs(is_web(web), True)

    def test_the_edges(self):
        every_tie = samples.whole(10)
        self.assertEqual(len(every_tie[1]), 45)
        for web in [(0, ()), (1, ()), (10, ()), every_tie, (2, ((0, 1),)), (10, ((0, 9),)), (10, ((8, 9),))]:
            with self.subTest(web=web):
                self.assertIs(is_web(web), True)

    def test_no_webs(self):
        for thing in samples.no_webs():
            with self.subTest(thing=thing):
                self.assertIs(is_web(thing), False)

    def test_a_web_with_one_thing_wrong(self):
        n, ties = samples.petersen()
        for k, (one, other) in enumerate(ties):
            wrong = [(other, one), (one, one), (one, n), (-1, other), [one, other], (one,), (one, other, n), None, "01"]
            for tie in wrong:
                with self.subTest(k=k, tie=tie):
                    self.assertIs(is_web((n, ties[:k] + (tie,) + ties[k + 1:])), False)
            with self.subTest(twice=k):
                self.assertIs(is_web((n, ties[:k] + (ties[k],) + ties[k:])), False)

    def test_ties_out_of_their_order(self):
        n, ties = samples.ring(6)
        for k in range(len(ties) - 1):
            turned = ties[:k] + (ties[k + 1], ties[k]) + ties[k + 2:]
            with self.subTest(turned=turned):
                self.assertIs(is_web((n, turned)), False)

    def test_what_is_handed_in_stays(self):
        for thing in samples.no_webs():
            was = copy.deepcopy(thing)
            is_web(thing)
            self.assertEqual(repr(thing), repr(was))

    def test_what_is_done_behind_the_call_changes_nothing(self):
        ties = [(0, 1)]
        self.assertIs(is_web((2, ties)), False)
        ties.clear()
        self.assertIs(is_web((2, ties)), False)
        self.assertIs(is_web((2, tuple(ties))), True)

    def test_by_name(self):
        self.assertIs(is_web(thing=(1, ())), True)
        self.assertIs(is_web(thing=[1, ()]), False)


class AreTiedTest(unittest.TestCase):
    def test_each_two_places_both_ways_about(self):
        for web in samples.some_webs() + samples.small_webs():
            for one in range(web[0]):
                for other in range(web[0]):
                    with self.subTest(web=web, one=one, other=other):
                        self.assertIs(are_tied(web, one, other), samples.plainly_tied(web, one, other))

    def test_told_by_hand(self):
        web = (4, ((0, 1), (0, 3), (1, 2)))
        for one, other in [(0, 1), (1, 0), (0, 3), (3, 0), (1, 2), (2, 1)]:
            self.assertIs(are_tied(web, one, other), True)
        for one, other in [(0, 2), (2, 0), (1, 3), (3, 1), (2, 3), (3, 2)]:
            self.assertIs(are_tied(web, one, other), False)

    def test_a_place_is_not_tied_to_itself(self):
        for place in range(10):
            self.assertIs(are_tied(samples.whole(10), place, place), False)

    def test_by_name(self):
        web = (3, ((0, 1),))
        self.assertIs(are_tied(other=1, one=0, web=web), True)
        self.assertIs(are_tied(one=2, web=web, other=0), False)


class NeighboursTest(unittest.TestCase):
    def test_each_place(self):
        for web in samples.some_webs() + samples.small_webs():
            for place in range(web[0]):
                with self.subTest(web=web, place=place):
                    told = neighbours(web, place)
                    plainly = [other for other in range(web[0]) if samples.plainly_tied(web, place, other)]
                    self.assertIs(type(told), tuple)
                    self.assertEqual(told, tuple(plainly))
                    self.assertTrue(all(type(other) is int for other in told))

    def test_told_by_hand(self):
        self.assertEqual(neighbours((1, ()), 0), ())
        self.assertEqual(neighbours((4, ((0, 2), (1, 2), (2, 3))), 2), (0, 1, 3))
        self.assertEqual(neighbours(samples.ring(10), 0), (1, 9))
        self.assertEqual(neighbours(samples.ring(10), 9), (0, 8))
        self.assertEqual(neighbours(samples.whole(10), 4), (0, 1, 2, 3, 5, 6, 7, 8, 9))

    def test_by_name(self):
        self.assertEqual(neighbours(place=1, web=(3, ((0, 1),))), (0,))


if __name__ == "__main__":
    unittest.main()
