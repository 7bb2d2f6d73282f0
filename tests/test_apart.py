"""Promise 5, and what promise 2 says of it: apart sets and crowds, the full and the greatest ones."""

import unittest

from hueshare.apart import full_apart, full_crowds, greatest_apart, greatest_crowd, is_apart, is_crowd
from tests import samples


def webs_to_look_at():
    return samples.some_webs() + samples.small_webs()


class IsApartIsCrowdTest(unittest.TestCase):
    def test_every_set_of_small_webs(self):
        webs = samples.small_webs() + [samples.ring(5), samples.ring(6), samples.mixed(7, 7, 3)]
        for web in webs:
            for some in samples.sets_of(web[0]):
                with self.subTest(web=web, some=some):
                    self.assertIs(is_apart(web, some), samples.plainly_apart(web, some))
                    self.assertIs(is_crowd(web, some), samples.plainly_crowd(web, some))

    def test_every_set_of_webs_of_ten_places(self):
        for web in [samples.petersen(), samples.mixed(10, 7, 3), samples.mixed(10, 5, 4)]:
            for some in samples.sets_of(10):
                told = (is_apart(web, some), is_crowd(web, some))
                self.assertEqual(told, (samples.plainly_apart(web, some), samples.plainly_crowd(web, some)))

    def test_the_empty_set_and_single_places_are_both(self):
        for web in webs_to_look_at():
            for some in [()] + [(place,) for place in range(web[0])]:
                with self.subTest(web=web, some=some):
                    self.assertIs(is_apart(web, some), True)
                    self.assertIs(is_crowd(web, some), True)

    def test_all_places(self):
        for n in range(2, 11):
            every = tuple(range(n))
            self.assertIs(is_apart(samples.loose(n), every), True)
            self.assertIs(is_crowd(samples.loose(n), every), False)
            self.assertIs(is_apart(samples.whole(n), every), False)
            self.assertIs(is_crowd(samples.whole(n), every), True)

    def test_by_name(self):
        web = (3, ((0, 1),))
        self.assertIs(is_apart(some=(0, 1), web=web), False)
        self.assertIs(is_crowd(some=(0, 1), web=web), True)


class FullTest(unittest.TestCase):
    def check_kinds(self, told):
        self.assertIs(type(told), list)
        for some in told:
            self.assertIs(type(some), tuple)
            self.assertTrue(all(type(place) is int for place in some))

    def test_against_all_sets(self):
        for web in webs_to_look_at():
            with self.subTest(web=web):
                self.assertEqual(full_apart(web), samples.plainly_full(web, samples.plainly_apart))
                self.assertEqual(full_crowds(web), samples.plainly_full(web, samples.plainly_crowd))

    def test_kinds_and_order(self):
        for web in webs_to_look_at():
            for told in (full_apart(web), full_crowds(web)):
                with self.subTest(web=web):
                    self.check_kinds(told)
                    self.assertEqual(told, sorted(set(told)))

    def test_without_places(self):
        self.assertEqual(full_apart((0, ())), [()])
        self.assertEqual(full_crowds((0, ())), [()])

    def test_without_ties_and_with_all(self):
        for n in range(1, 11):
            every = [tuple(range(n))]
            single = [(place,) for place in range(n)]
            self.assertEqual(full_apart(samples.loose(n)), every)
            self.assertEqual(full_crowds(samples.loose(n)), single)
            self.assertEqual(full_apart(samples.whole(n)), single)
            self.assertEqual(full_crowds(samples.whole(n)), every)

    def test_told_by_hand(self):
        self.assertEqual(full_apart(samples.ring(4)), [(0, 2), (1, 3)])
        self.assertEqual(full_crowds(samples.ring(4)), [(0, 1), (0, 3), (1, 2), (2, 3)])
        self.assertEqual(full_apart(samples.ring(5)), [(0, 2), (0, 3), (1, 3), (1, 4), (2, 4)])
        self.assertEqual(full_apart(samples.ring(6)), [(0, 2, 4), (0, 3), (1, 3, 5), (1, 4), (2, 5)])
        self.assertEqual(full_crowds((4, ((0, 1), (0, 2), (1, 2), (2, 3)))), [(0, 1, 2), (2, 3)])

    def test_a_told_list_is_the_askers_own(self):
        for tell in (full_apart, full_crowds):
            for web in [(0, ()), samples.ring(5), samples.petersen()]:
                with self.subTest(tell=tell, web=web):
                    told = tell(web)
                    was = list(told)
                    told.clear()
                    told.append("spoilt")
                    again = tell(web)
                    self.assertIsNot(again, told)
                    self.assertEqual(again, was)

    def test_by_name(self):
        self.assertEqual(full_apart(web=(2, ())), [(0, 1)])
        self.assertEqual(full_crowds(web=(2, ())), [(0,), (1,)])


class GreatestTest(unittest.TestCase):
    def test_against_all_sets(self):
        for web in webs_to_look_at():
            with self.subTest(web=web):
                self.assertEqual(greatest_apart(web), samples.plainly_greatest(web, samples.plainly_apart))
                self.assertEqual(greatest_crowd(web), samples.plainly_greatest(web, samples.plainly_crowd))

    def test_kinds(self):
        for web in webs_to_look_at():
            for told in (greatest_apart(web), greatest_crowd(web)):
                with self.subTest(web=web):
                    self.assertIs(type(told), tuple)
                    self.assertTrue(all(type(place) is int for place in told))

    def test_without_places(self):
        self.assertEqual(greatest_apart((0, ())), ())
        self.assertEqual(greatest_crowd((0, ())), ())

    def test_of_the_most_places_the_first(self):
        self.assertEqual(greatest_apart(samples.ring(4)), (0, 2))
        self.assertEqual(greatest_apart(samples.ring(7)), (0, 2, 4))
        self.assertEqual(greatest_apart(samples.whole(10)), (0,))
        self.assertEqual(greatest_crowd(samples.ring(10)), (0, 1))
        self.assertEqual(greatest_crowd(samples.loose(10)), (0,))

    def test_the_first_is_not_the_one_with_the_most_places(self):
        star = (4, ((0, 1), (0, 2), (0, 3)))
        self.assertEqual(greatest_apart(star), (1, 2, 3))
        self.assertEqual(greatest_crowd((5, ((0, 1), (1, 2), (2, 3), (2, 4), (3, 4)))), (2, 3, 4))

    def test_by_name(self):
        self.assertEqual(greatest_apart(web=(3, ((0, 1),))), (0, 2))
        self.assertEqual(greatest_crowd(web=(3, ((0, 1),))), (0, 1))


if __name__ == "__main__":
    unittest.main()
