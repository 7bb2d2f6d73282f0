"""Promises 2 and 3 over the whole program: what its modules tell fits together."""

import unittest
from fractions import Fraction
from inspect import signature

from hueshare import apart, each, errors, folds, fractions, greedy, hues, made, parts, shapes, shares, texts, turnings
from hueshare import ways, webs
from hueshare.desk import Desk
from hueshare.sharing import Sharing
from tests import samples
from tests.checks import Checks

NAMES = {
    webs: {"is_web": "thing", "are_tied": "web one other", "neighbours": "web place"},
    apart: {"is_apart": "web some", "is_crowd": "web some", "full_apart": "web", "full_crowds": "web",
            "greatest_apart": "web", "greatest_crowd": "web"},
    made: {"beside": "one other", "across": "one other", "within": "one other", "other_web": "web",
           "cut_down": "web some"},
    shapes: {"ring": "n", "picks": "m k", "grown": "web"},
    hues: {"fewest": "web", "are_hues": "web hues", "are_floors": "web floors number"},
    fractions: {"lowest": "a b", "plus": "one other", "times": "one other", "is_less": "one other"},
    shares: {"shares": "web wants", "value": "web", "is_enough": "web wants laying number",
             "are_prices": "web wants prices number"},
    parts: {"needed": "web", "held_part": "web", "is_part": "web some"},
    each: {"each_so_many": "web b", "are_rows": "web b rows", "spread": "web"},
    folds: {"fold": "web", "is_fold": "web order", "is_bare_ring": "web some", "by_fold": "web"},
    greedy: {"greedy": "web"},
    ways: {"way_into": "web other", "is_way": "web other some", "pulled": "web other some laying"},
    turnings: {"turnings": "web", "is_alike": "web", "alike_value": "web"},
    texts: {"show_web": "web", "show_fraction": "fraction", "read_web": "text"},
    Sharing: {"put": "self ties", "tie": "self one other", "untie": "self one other", "drop": "self", "web": "self",
              "value": "self", "laying": "self", "prices": "self", "again": "self"},
    Desk: {"say": "self row"},
}


def worth(web):
    return Fraction(*shares.value(web))


def webs_to_look_at():
    more = samples.folded_webs(range(5, 11), 46) + samples.drawn_webs(range(5, 11), 47)
    return samples.some_webs() + samples.small_webs() + more


def parts_to_join():
    webs = [(0, ()), (1, ()), (2, ()), (2, ((0, 1),)), (3, ((0, 1),)), samples.path(4), samples.whole(4)]
    return webs + [shapes.ring(4), shapes.ring(5), samples.mixed(5, 7, 3)]


class InterfaceTest(Checks):
    def test_names_and_arguments(self):
        for holder, names in NAMES.items():
            for name, arguments in names.items():
                told = signature(getattr(holder, name)).parameters
                self.assertEqual(list(told)[:len(arguments.split())], arguments.split(), name)
                needed = [known for known in told.values() if known.default is known.empty]
                self.assertEqual(len(needed), len(arguments.split()), name)

    def test_makers_of_objects(self):
        self.assertEqual(list(signature(Sharing).parameters), ["web"])
        self.assertEqual(list(signature(Desk).parameters), [])

    def test_every_refusal_is_a_hue_error(self):
        for name in "NoWeb NoPlace NoTie NoWants NoFold NoNumber TooMany NoText NoRow".split():
            self.assertTrue(issubclass(getattr(errors, name), errors.HueError))


class PromiseTest(Checks):
    def test_a_laying_and_prices_sum_to_the_same(self):
        for web in webs_to_look_at():
            ones = (1,) * web[0]
            least, laying, prices = shares.shares(web, ones)
            self.assertIs(shares.is_enough(web, ones, laying, least), True)
            self.assertIs(shares.are_prices(web, ones, prices, least), True)
            k, hues_of, floors = hues.fewest(web)
            self.assertIs(hues.are_hues(web, hues_of), True)
            self.assertIs(hues.are_floors(web, floors, k), True)
            a, b, rows = each.spread(web)
            self.assertIs(each.are_rows(web, b, rows), True)
            self.assertEqual(Fraction(a, b), Fraction(*least))

    def test_crowd_value_and_hues_in_their_order(self):
        for web in webs_to_look_at():
            self.assertLessEqual(len(apart.greatest_crowd(web)), worth(web), web)
            self.assertLessEqual(worth(web), hues.fewest(web)[0], web)
            self.assertLessEqual(web[0], len(apart.greatest_apart(web)) * worth(web), web)

    def test_without_a_bare_ring_all_are_one(self):
        folded = 0
        for web in webs_to_look_at():
            kind, places = folds.fold(web)
            if kind == "ring":
                self.check_refused(errors.NoFold, folds.by_fold, web)
                continue
            folded += 1
            k, hues_of, crowd = folds.by_fold(web)
            self.assertEqual(k, len(crowd))
            self.assertEqual((k, k, k), (len(apart.greatest_crowd(web)), worth(web), hues.fewest(web)[0]), web)
            self.assertIs(hues.are_hues(web, hues_of), True)
            self.assertIs(apart.is_crowd(web, crowd), True)
        self.assertGreater(folded, 100)

    def test_one_after_the_other_no_more_than_the_part_above(self):
        for web in webs_to_look_at():
            sets, prices = greedy.greedy(web)
            most = max(len(apart.greatest_apart(web)), 1)
            h = sum(Fraction(1, k) for k in range(1, most + 1))
            self.assertLessEqual(hues.fewest(web)[0], len(sets), web)
            self.assertLessEqual(len(sets), h * worth(web), web)
            bound = Fraction(len(sets)) / h
            number = (bound.numerator, bound.denominator)
            self.assertIs(shares.are_prices(web, (1,) * web[0], prices, number), True)

    def test_a_web_led_into_another_has_no_greater_value(self):
        looked_at = samples.drawn_webs([6, 8, 10], 48) + [shapes.ring(5), shapes.ring(7), samples.petersen()]
        led = 0
        for web in looked_at:
            for other in looked_at:
                some = ways.way_into(web, other)
                if some is None:
                    continue
                led += 1
                self.assertLessEqual(worth(web), worth(other), (web, other))
                self.assertLessEqual(hues.fewest(web)[0], hues.fewest(other)[0])
                least, laying, prices = shares.shares(other, (1,) * other[0])
                back = ways.pulled(web, other, some, laying)
                self.assertIs(shares.is_enough(web, (1,) * web[0], back, least), True)
        self.assertGreater(led, 150)

    def test_alike_everywhere(self):
        alike = 0
        for web in webs_to_look_at():
            told = turnings.alike_value(web)
            self.assertEqual(told is not None, turnings.is_alike(web))
            if told is not None:
                alike += 1
                self.assertEqual(told, shares.value(web), web)
                self.assertEqual(Fraction(*told) * len(apart.greatest_apart(web)), web[0])
        self.assertGreater(alike, 50)

    def test_made_of_parts(self):
        for one in parts_to_join():
            for other in parts_to_join():
                pair = (one, other)
                self.assertEqual(worth(made.beside(one, other)), max(worth(one), worth(other)), pair)
                self.assertEqual(worth(made.across(one, other)), worth(one) + worth(other), pair)
                if one[0] * other[0] <= 10:
                    self.assertEqual(worth(made.within(one, other)), worth(one) * worth(other), pair)
            if 1 <= one[0] <= 4:
                self.assertEqual(worth(shapes.grown(one)), worth(one) + 1 / worth(one), one)

    def test_rings_and_picks(self):
        for r in range(2, 6):
            self.assertEqual(shares.value(shapes.ring(2 * r)), (2, 1))
        for r in range(1, 5):
            self.assertEqual(worth(shapes.ring(2 * r + 1)), 2 + Fraction(1, r))
        for m, k in [(m, 1) for m in range(2, 11)] + [(4, 2), (5, 2)]:
            web = shapes.picks(m, k)
            self.assertEqual(worth(web), Fraction(m, k))
            self.assertEqual(turnings.alike_value(web), shares.value(web))

    def test_with_a_tie_or_a_place_more(self):
        for web in samples.all_webs(4)[::3] + samples.drawn_webs([6, 9], 49):
            sharing = Sharing(web)
            for one, other in made.other_web(web)[1]:
                sharing.tie(one, other)
                self.assertGreaterEqual(Fraction(*sharing.value()), worth(web))
                sharing.untie(one, other)
            for some in samples.sets_of(web[0])[::5]:
                sharing.put(some)
                self.assertTrue(worth(web) <= Fraction(*sharing.value()) <= worth(web) + 1, (web, some))
                sharing.drop()
            self.assertEqual((sharing.web(), sharing.value()), (web, shares.value(web)))

    def test_a_part_holds_the_value(self):
        for web in samples.drawn_webs([7, 9], 50):
            some = parts.held_part(web)
            self.assertEqual(shares.value(made.cut_down(web, some)), shares.value(web))

    def test_desk_and_sharing_tell_what_the_modules_tell(self):
        for web in samples.some_webs() + samples.folded_webs([7, 10], 51):
            desk = Desk()
            desk.say("web " + texts.show_web(web))
            told = [desk.say(word) for word in ("value", "hues", "crowd", "fold")]
            self.assertEqual(told[0], texts.show_fraction(Sharing(web).value()))
            self.assertEqual(told[1], str(hues.fewest(web)[0]))
            self.assertEqual(told[2], " ".join(str(place) for place in apart.greatest_crowd(web)) or "none")
            self.assertEqual(told[3], {"fold": "yes", "ring": "no"}[folds.fold(web)[0]])
            if told[3] == "yes":
                self.assertEqual(told[0], told[1])

    def test_all_of_ten_places_soon(self):
        for web in samples.ten_place_webs():
            for asked in [shares.value, hues.fewest, parts.needed, parts.held_part, each.spread, folds.fold,
                          greedy.greedy, turnings.is_alike, turnings.alike_value, Sharing, texts.show_web]:
                self.check_soon(asked, web)


if __name__ == "__main__":
    unittest.main()
