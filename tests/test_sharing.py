"""Promise 19, and what promise 2 says of it: a Sharing, with all that comes and goes."""

import unittest
from fractions import Fraction
from random import Random

from hueshare.errors import NoPlace, NoTie, NoWeb, TooMany
from hueshare.made import cut_down
from hueshare.shapes import ring
from hueshare.shares import value
from hueshare.sharing import Sharing
from tests import samples
from tests.checks import Checks, refusal_of, spoil
from tests.layings import plainly_enough, plainly_prices, total, worth_of


def all_told(sharing):
    return (sharing.web(), sharing.value(), sharing.laying(), sharing.prices(), sharing.again())


def with_ties(web, gone, new):
    return (web[0], tuple(sorted((set(web[1]) - set(gone)) | set(new))))


def after(web, deed):
    # The web behind a deed that isn't refused.
    n = web[0]
    if deed[0] == "put":
        return with_ties((n + 1, web[1]), [], [(place, n) for place in deed[1]])
    if deed[0] == "drop":
        return cut_down(web, tuple(range(n - 1)))
    tie = tuple(sorted(deed[1:]))
    return with_ties(web, [], [tie]) if deed[0] == "tie" else with_ties(web, [tie], [])


def can_stay(web, laying):
    # Whether a laying of some web is one of this web, enough, with its value for a sum.
    sets = [some for some, share in laying]
    if not all(set(some) <= set(range(web[0])) and samples.plainly_apart(web, some) for some in sets):
        return False
    enough = plainly_enough(web, (1,) * web[0], laying)
    return enough and total(share for some, share in laying) == Fraction(*value(web))


def do(sharing, deed):
    return {"put": sharing.put, "tie": sharing.tie, "untie": sharing.untie, "drop": sharing.drop}[deed[0]](*deed[1:])


def drawn_deed(web, chance):
    n, ties = web
    loose = [tie for tie in samples.pairs(range(n)) if tie not in ties]
    deeds = []
    if n < 10:
        part = chance.randrange(11)
        deeds += [("put", tuple(place for place in range(n) if chance.randrange(10) < part))] * 2
    if n > 0:
        deeds.append(("drop",))
    if loose:
        deeds += [("tie",) + tuple(chance.sample(chance.choice(loose), 2))] * 3
    if ties:
        deeds += [("untie",) + tuple(chance.sample(chance.choice(ties), 2))] * 3
    return chance.choice(deeds)


def refused_deeds(web):
    n, ties = web
    deeds = []
    for deed in ("tie", "untie"):
        for place in (n, -1, 10, 11, 10 ** 30, True, None):
            deeds += [(NoPlace, (deed, place, 0)), (NoPlace, (deed, 0, place)), (NoPlace, (deed, place, place))]
        deeds += [(NoPlace, (deed, place, place)) for place in range(n)]
    for tie in samples.pairs(range(n)):
        deed = "tie" if tie in ties else "untie"
        deeds += [(NoTie, (deed,) + tie), (NoTie, (deed,) + tie[::-1])]
    deeds += [(NoPlace, ("put", some)) for some in samples.no_sets(n)]
    if n == 10:
        deeds += [(TooMany, ("put", some)) for some in [(), (0,), (9,), (0, 9), tuple(range(10))]]
    if n == 0:
        deeds.append((NoPlace, ("drop",)))
    return deeds


class SharingTest(Checks):
    def check_told(self, sharing, web):
        told, least, laying, prices, again = all_told(sharing)
        ones = (1,) * web[0]
        self.assertEqual(told, web)
        self.check_web(told)
        self.check_fraction(least)
        self.assertEqual(least, value(web))
        self.check_laying(web, laying)
        self.assertTrue(plainly_enough(web, ones, laying), (web, laying))
        self.assertEqual(total(share for some, share in laying), Fraction(*least))
        self.assertIs(type(prices), list)
        self.assertEqual(len(prices), web[0])
        for price in prices:
            self.check_fraction(price)
            self.assertGreaterEqual(price[0], 0)
        self.assertTrue(plainly_prices(web, prices), (web, prices))
        self.assertEqual(worth_of(ones, prices), Fraction(*least))
        self.check_wholes(again)

    def check_deed(self, sharing, web, deed):
        # Gives back the web behind the deed, and whether the laying could stay.
        laying, again = sharing.laying(), sharing.again()
        told = do(sharing, deed)
        if deed[0] == "put":
            self.check_wholes(told)
            self.assertEqual(told, web[0])
        else:
            self.assertIsNone(told)
        new = after(web, deed)
        self.check_told(sharing, new)
        stays = can_stay(new, laying)
        self.assertEqual(sharing.again(), again + (0 if stays else 1), (web, deed))
        if stays:
            self.assertEqual(sharing.laying(), laying, (web, deed))
        return new, stays

    def check_deeds(self, web, deeds):
        sharing = Sharing(web)
        self.check_told(sharing, web)
        self.assertEqual(sharing.again(), 0)
        stayed = []
        for deed in deeds:
            web, stays = self.check_deed(sharing, web, deed)
            stayed.append(stays)
        return stayed

    def test_begun_with_each_kind_of_web(self):
        for web in samples.some_webs() + samples.small_webs():
            sharing = Sharing(web)
            self.check_told(sharing, web)
            self.assertEqual(sharing.again(), 0)

    def test_long_drawn_rows_of_deeds(self):
        stayed = []
        for seed in range(8):
            chance = Random(seed)
            web = [(0, ()), ring(5), samples.petersen(), samples.loose(6)][seed % 4]
            sharing = Sharing(web)
            for _ in range(120):
                web, stays = self.check_deed(sharing, web, drawn_deed(web, chance))
                stayed.append(stays)
        self.assertGreater(stayed.count(True), 100)
        self.assertGreater(stayed.count(False), 100)

    def test_ties_come_and_go(self):
        for n in (5, 7, 10):
            chance = Random(n)
            web = samples.loose(n)
            ties = list(samples.pairs(range(n)))
            deeds = [("tie",) + tie for tie in chance.sample(ties, len(ties))]
            self.check_deeds(web, deeds)
            deeds = [("untie",) + tie[::-1] for tie in chance.sample(ties, len(ties))]
            self.check_deeds(samples.whole(n), deeds)

    def test_places_come_and_go(self):
        for make in (samples.loose, samples.whole, samples.path):
            web = make(10)
            puts = [("put", tuple(place for place in range(k) if (place, k) in web[1])) for k in range(10)]
            self.check_deeds((0, ()), puts + [("drop",)] * 10 + puts)
            sharing = Sharing((0, ()))
            for deed in puts:
                do(sharing, deed)
            self.assertEqual(sharing.web(), web)

    def test_each_deed_on_small_webs(self):
        for web in samples.small_webs():
            n, ties = web
            deeds = [("put", some) for some in samples.sets_of(n)] + ([("drop",)] if n else [])
            deeds += [("untie" if tie in ties else "tie",) + tie for tie in samples.pairs(range(n))]
            for deed in deeds:
                self.check_deeds(web, [deed])

    def test_the_value_goes_up_and_down(self):
        for seed in range(4):
            chance = Random(100 + seed)
            sharing = Sharing(samples.loose(4))
            for _ in range(60):
                was = Fraction(*sharing.value())
                deed = drawn_deed(sharing.web(), chance)
                do(sharing, deed)
                now = Fraction(*sharing.value())
                low, high = {"put": (0, 1), "tie": (0, 1), "drop": (-1, 0), "untie": (-1, 0)}[deed[0]]
                self.assertTrue(low <= now - was <= high, (deed, was, now))

    def test_again_by_hand(self):
        sharing = Sharing((2, ((0, 1),)))
        self.assertEqual(sharing.laying(), [((0,), (1, 1)), ((1,), (1, 1))])
        # Still a laying and enough, but the value is 1 now.
        sharing.untie(1, 0)
        self.assertEqual((sharing.value(), sharing.laying(), sharing.again()), ((1, 1), [((0, 1), (1, 1))], 1))
        # No longer a laying.
        sharing.tie(1, 0)
        self.assertEqual((sharing.value(), sharing.again()), ((2, 1), 2))
        # Not enough for the new place.
        self.assertEqual(sharing.put((0, 1)), 2)
        self.assertEqual((sharing.value(), sharing.again()), ((3, 1), 3))
        sharing.drop()
        self.assertEqual((sharing.web(), sharing.value(), sharing.again()), ((2, ((0, 1),)), (2, 1), 4))

    def test_a_laying_that_stays(self):
        sharing = Sharing(ring(4))
        self.assertEqual(sharing.laying(), [((0, 2), (1, 1)), ((1, 3), (1, 1))])
        sharing.untie(3, 0)
        sharing.untie(0, 1)
        self.assertEqual((sharing.value(), sharing.again()), ((2, 1), 0))
        self.assertEqual(sharing.laying(), [((0, 2), (1, 1)), ((1, 3), (1, 1))])
        sharing.tie(0, 3)
        self.assertEqual((sharing.web(), sharing.again()), ((4, ((0, 3), (1, 2), (2, 3))), 0))

    def test_places_put_and_dropped_of_one_web(self):
        sharing = Sharing((0, ()))
        self.assertEqual(all_told(sharing), ((0, ()), (0, 1), [], [], 0))
        self.assertEqual(sharing.put(()), 0)
        self.assertEqual(all_told(sharing), ((1, ()), (1, 1), [((0,), (1, 1))], [(1, 1)], 1))
        sharing.drop()
        self.assertEqual(all_told(sharing), ((0, ()), (0, 1), [], [], 2))


class RefusedTest(Checks):
    def test_no_web(self):
        for thing in samples.no_webs():
            self.check_refused(NoWeb, Sharing, thing)

    def test_refused_deeds_change_nothing(self):
        webs = [(0, ()), (1, ()), (2, ((0, 1),)), (3, ((0, 1),)), ring(5), samples.petersen(), samples.loose(10)]
        for web in webs + [samples.whole(10), samples.mixed(9, 7, 3)]:
            sharing = Sharing(web)
            was = all_told(sharing)
            for refusal, deed in refused_deeds(web):
                self.assertIs(refusal_of(do, (sharing, deed)), refusal, (web, deed))
                self.assertEqual(all_told(sharing), was, (web, deed))

    def test_refused_between_deeds(self):
        chance = Random(38)
        sharing = Sharing(ring(5))
        for _ in range(60):
            web = sharing.web()
            was = all_told(sharing)
            for refusal, deed in chance.sample(refused_deeds(web), 5):
                self.assertIs(refusal_of(do, (sharing, deed)), refusal, (web, deed))
            self.assertEqual(all_told(sharing), was)
            do(sharing, drawn_deed(web, chance))

    def test_no_place_goes_ahead(self):
        for web in [samples.loose(10), samples.petersen()]:
            sharing = Sharing(web)
            for some in [(10,), (-1,), (1, 0), (0, 0), (0, 10), (True,), [0], None]:
                self.check_refused(NoPlace, sharing.put, some)
            self.check_refused(TooMany, sharing.put, ())
            self.assertEqual(sharing.web(), web)
        for deed in ("tie", "untie"):
            for web in [(2, ()), (2, ((0, 1),))]:
                self.assertIs(refusal_of(do, (Sharing(web), (deed, 1, 1))), NoPlace)
                self.assertIs(refusal_of(do, (Sharing(web), (deed, 1, 2))), NoPlace)


class ToldTest(Checks):
    def test_what_is_told_is_the_askers_own(self):
        for web in [(0, ()), (1, ()), ring(5), samples.petersen()]:
            sharing = Sharing(web)
            for asked in (sharing.web, sharing.value, sharing.laying, sharing.prices, sharing.again):
                self.check_told_alike(asked)
            was = all_told(sharing)
            spoil(all_told(sharing))
            self.assertEqual(all_told(sharing), was)

    def test_each_tuple_and_list_is_a_new_one(self):
        web = ring(5)
        sharing = Sharing(web)
        self.assertIsNot(sharing.web(), web)
        self.assertIsNot(sharing.web()[1], web[1])
        self.assertIsNot(sharing.web()[1][0], web[1][0])
        for asked in (sharing.web, sharing.value, sharing.laying, sharing.prices):
            one, other = asked(), asked()
            self.assertIsNot(one, other)
            for left, right in zip(one, other):
                if isinstance(left, tuple):
                    self.assertIsNot(left, right)
        self.assertIsNot(sharing.laying()[0][0], sharing.laying()[0][0])
        self.assertIsNot(sharing.laying()[0][1], sharing.laying()[0][1])

    def test_spoilt_answers_between_deeds(self):
        chance = Random(39)
        one, other = Sharing(ring(5)), Sharing(ring(5))
        for _ in range(60):
            deed = drawn_deed(one.web(), chance)
            spoil(all_told(one))
            do(one, deed)
            do(other, deed)
            self.assertEqual(all_told(one), all_told(other))

    def test_two_know_nothing_of_one_another(self):
        chance = Random(40)
        web = samples.mixed(6, 7, 3)
        still = Sharing(web)
        was = all_told(still)
        one, other = Sharing(web), Sharing(ring(4))
        for _ in range(40):
            for moved, held in ((one, other), (other, one)):
                told = all_told(held)
                do(moved, drawn_deed(moved.web(), chance))
                self.assertEqual(all_told(held), told)
        self.assertEqual(all_told(still), was)
        self.assertEqual(web, samples.mixed(6, 7, 3))

    def test_of_one_web_the_same_is_told(self):
        chance = Random(41)
        deeds = []
        one = Sharing(samples.path(5))
        for _ in range(40):
            deeds.append(drawn_deed(one.web(), chance))
            do(one, deeds[-1])
        other = Sharing(samples.path(5))
        for deed in deeds:
            do(other, deed)
        self.assertEqual(all_told(one), all_told(other))

    def test_by_name(self):
        sharing = Sharing(web=(1, ()))
        self.assertEqual(sharing.put(ties=(0,)), 1)
        sharing.untie(other=0, one=1)
        self.assertEqual(sharing.web(), (2, ()))
        sharing.tie(other=0, one=1)
        self.assertEqual(sharing.web(), (2, ((0, 1),)))

    def test_soon(self):
        for web in samples.ten_place_webs():
            sharing = self.check_soon(Sharing, web)
            for deed in [("drop",), ("put", (0, 2, 4)), ("untie", 9, 4), ("tie", 9, 4)]:
                self.check_soon(do, sharing, deed)
            self.check_soon(all_told, sharing)


if __name__ == "__main__":
    unittest.main()
