"""Promise 6, cut_down of promise 7, and what promise 2 says of them: webs made of others."""

import unittest

from hueshare.errors import NoPlace, NoWeb, TooMany
from hueshare.made import across, beside, cut_down, other_web, within
from tests import samples
from tests.checks import Checks

OF_TWO = [beside, across, within]


def of_size(n):
    if n == 0:
        return [(0, ())]
    webs = [samples.loose(n), samples.whole(n), samples.path(n), samples.mixed(n, 7, 3), samples.mixed(n, 5, 3)]
    return sorted(set(webs + [samples.ring(n)] if n > 2 else webs))


def put_together(names, tied):
    numbers = range(len(names))
    return (len(names), tuple((i, j) for i, j in samples.pairs(numbers) if tied(names[i], names[j])))


def plainly_joined(one, other, between):
    def tied(left, right):
        if left[0] != right[0]:
            return between
        return samples.plainly_tied((one, other)[left[0]], left[1], right[1])
    return put_together([(0, i) for i in range(one[0])] + [(1, k) for k in range(other[0])], tied)


def plainly_within(one, other):
    def tied(left, right):
        if left[0] == right[0]:
            return samples.plainly_tied(other, left[1], right[1])
        return samples.plainly_tied(one, left[0], right[0])
    return put_together([(i, k) for i in range(one[0]) for k in range(other[0])], tied)


def plainly_cut_down(web, some):
    return put_together(list(some), lambda left, right: samples.plainly_tied(web, left, right))


def plainly_other(web):
    return put_together(list(range(web[0])), lambda left, right: not samples.plainly_tied(web, left, right))


class JoinedTest(Checks):
    def check(self, one, other):
        for told, plainly in [
            (beside(one, other), plainly_joined(one, other, False)),
            (across(one, other), plainly_joined(one, other, True)),
        ]:
            self.assertEqual(told, plainly, (one, other))
            self.check_web(told)

    def test_pair_by_pair(self):
        for n in range(11):
            for m in range(11 - n):
                for one in of_size(n):
                    for other in of_size(m):
                        self.check(one, other)

    def test_every_two_small_webs(self):
        webs = samples.small_webs()
        for one in webs:
            for other in webs:
                self.check(one, other)

    def test_by_hand(self):
        one, other = (2, ((0, 1),)), (3, ((0, 2),))
        self.assertEqual(beside(one, other), (5, ((0, 1), (2, 4))))
        self.assertEqual(beside(other, one), (5, ((0, 2), (3, 4))))
        ties = ((0, 1), (0, 2), (0, 3), (0, 4), (1, 2), (1, 3), (1, 4), (2, 4))
        self.assertEqual(across(one, other), (5, ties))
        self.assertEqual(across((1, ()), (2, ())), (3, ((0, 1), (0, 2))))

    def test_beside_and_across_the_empty_web(self):
        for web in samples.some_webs():
            for make in (beside, across):
                self.assertEqual(make(web, (0, ())), web)
                self.assertEqual(make((0, ()), web), web)

    def test_too_many(self):
        for make in (beside, across):
            for n in range(1, 11):
                for m in range(11 - n, 11):
                    for one in of_size(n)[:3]:
                        self.check_refused(TooMany, make, one, of_size(m)[-1])
                self.assertEqual(make(samples.loose(n), samples.whole(10 - n))[0], 10)


class WithinTest(Checks):
    def check(self, one, other):
        told = within(one, other)
        self.assertEqual(told, plainly_within(one, other), (one, other))
        self.check_web(told)

    def test_pair_by_pair(self):
        for n in range(11):
            for m in range(11):
                if n * m <= 10:
                    for one in of_size(n):
                        for other in of_size(m):
                            self.check(one, other)

    def test_every_two_small_webs(self):
        webs = samples.small_webs()
        for one in webs:
            for other in webs:
                if one[0] * other[0] <= 10:
                    self.check(one, other)

    def test_by_number(self):
        one, other = (2, ((0, 1),)), (3, ((0, 2),))
        ties = tuple((i, j) for i in range(3) for j in range(3, 6))
        self.assertEqual(within(one, other), (6, tuple(sorted(ties + ((0, 2), (3, 5))))))
        self.assertEqual(within(other, one), (6, ((0, 1), (0, 4), (0, 5), (1, 4), (1, 5), (2, 3), (4, 5))))

    def test_within_none_and_one(self):
        for web in samples.some_webs():
            self.assertEqual(within(web, (0, ())), (0, ()))
            self.assertEqual(within((0, ()), web), (0, ()))
            self.assertEqual(within(web, (1, ())), web)
            self.assertEqual(within((1, ()), web), web)

    def test_too_many(self):
        for n in range(11):
            for m in range(11):
                if n * m > 10:
                    self.check_refused(TooMany, within, of_size(n)[0], of_size(m)[-1])
                else:
                    self.assertEqual(within(of_size(n)[0], of_size(m)[-1])[0], n * m)


class OtherWebTest(Checks):
    def test_pair_by_pair(self):
        for web in samples.some_webs() + samples.small_webs():
            told = other_web(web)
            self.assertEqual(told, plainly_other(web))
            self.check_web(told)
            self.assertEqual(other_web(told), web)

    def test_by_hand(self):
        self.assertEqual(other_web((0, ())), (0, ()))
        self.assertEqual(other_web((1, ())), (1, ()))
        self.assertEqual(other_web((3, ((0, 2),))), (3, ((0, 1), (1, 2))))
        for n in range(11):
            self.assertEqual(other_web(samples.loose(n)), samples.whole(n))


class CutDownTest(Checks):
    def check(self, web, some):
        told = cut_down(web, some)
        self.assertEqual(told, plainly_cut_down(web, some), (web, some))
        self.check_web(told)

    def test_every_set_pair_by_pair(self):
        for web in samples.small_webs() + [samples.ring(6), samples.mixed(7, 7, 3), samples.petersen()]:
            for some in samples.sets_of(web[0]):
                self.check(web, some)

    def test_to_none_to_one_and_to_all(self):
        for web in samples.some_webs():
            self.assertEqual(cut_down(web, ()), (0, ()))
            self.assertEqual(cut_down(web, tuple(range(web[0]))), web)
            for place in range(web[0]):
                self.assertEqual(cut_down(web, (place,)), (1, ()))

    def test_by_hand(self):
        self.assertEqual(cut_down(samples.ring(5), (0, 2, 3, 4)), (4, ((0, 3), (1, 2), (2, 3))))
        self.assertEqual(cut_down(samples.ring(10), (1, 8, 9)), (3, ((1, 2),)))

    def test_no_place(self):
        for web in [(0, ()), (1, ()), (3, ((0, 1),)), samples.ring(5), samples.petersen()]:
            for wrong in samples.no_sets(web[0]):
                self.check_refused(NoPlace, cut_down, web, wrong)


class RefusedTest(Checks):
    def test_no_web_either_way_about(self):
        for thing in samples.no_webs():
            for make in OF_TWO:
                self.check_refused(NoWeb, make, thing, (0, ()))
                self.check_refused(NoWeb, make, (1, ()), thing)
                self.check_refused(NoWeb, make, thing, thing)
            self.check_refused(NoWeb, other_web, thing)
            self.check_refused(NoWeb, cut_down, thing, ())

    def test_no_web_goes_ahead(self):
        for thing in samples.no_webs():
            for make in OF_TWO:
                self.check_refused(NoWeb, make, thing, samples.whole(10))
                self.check_refused(NoWeb, make, samples.whole(10), thing)
            for some in ((1, 0), (-1,), (True,), [0], None, (10 ** 30,)):
                self.check_refused(NoWeb, cut_down, thing, some)


class ToldTest(Checks):
    def test_told_alike_and_anew(self):
        webs = [(0, ()), (1, ()), (3, ((0, 1), (1, 2))), samples.ring(5)]
        for web in webs:
            self.check_told_alike(other_web, web)
            self.check_told_alike(cut_down, web, tuple(range(web[0])))
            for make in OF_TWO:
                self.check_told_alike(make, web, (1, ()))
                self.check_told_alike(make, (1, ()), web)

    def test_told_is_not_what_was_handed_in(self):
        web = samples.ring(5)
        every = tuple(range(5))
        for told in [beside(web, (0, ())), beside((0, ()), web), across(web, (0, ())), within(web, (1, ())),
                     within((1, ()), web), cut_down(web, every), other_web(other_web(web))]:
            self.assertEqual(told, web)
            self.assertIsNot(told, web)
            self.assertIsNot(told[1], web[1])

    def test_by_name(self):
        one, other = (1, ()), (2, ((0, 1),))
        self.assertEqual(beside(other=other, one=one), (3, ((1, 2),)))
        self.assertEqual(across(other=other, one=one), (3, ((0, 1), (0, 2), (1, 2))))
        self.assertEqual(within(other=(2, ()), one=other), (4, ((0, 2), (0, 3), (1, 2), (1, 3))))
        self.assertEqual(other_web(web=other), (2, ()))
        self.assertEqual(cut_down(some=(1, 2), web=(3, ((1, 2),))), (2, ((0, 1),)))

    def test_soon(self):
        for web in samples.ten_place_webs():
            self.check_soon(other_web, web)
            self.check_soon(cut_down, web, tuple(range(10)))
            self.check_soon(within, web, (1, ()))
            self.check_soon(beside, web, (0, ()))
            self.check_soon(across, web, (0, ()))


if __name__ == "__main__":
    unittest.main()
