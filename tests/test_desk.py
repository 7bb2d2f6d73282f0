"""Promise 21, and what promise 2 says of it: a desk, its rows and its answers."""

import unittest
from fractions import Fraction
from random import Random

from hueshare.apart import greatest_crowd
from hueshare.desk import Desk
from hueshare.errors import NoPlace, NoRow, NoText, NoTie, NoWeb, TooMany
from hueshare.folds import fold
from hueshare.hues import fewest
from hueshare.shapes import ring
from hueshare.shares import value
from hueshare.texts import show_web
from tests import samples
from tests.checks import Checks, refusal_of
from tests.layings import plainly_enough, plainly_prices, total, worth_of
from tests.test_sharing import after, drawn_deed
from tests.test_texts import NO_NUMBERS, no_texts, texts_of_no_webs

QUESTIONS = ["value", "laying", "prices", "hues", "crowd", "fold"]
FIVE = "web places 5; 0-1; 0-4; 1-2; 2-3; 3-4"


def desk_with(web):
    desk = Desk()
    desk.say("web " + show_web(web))
    return desk


def all_answers(desk):
    return [desk.say(question) for question in QUESTIONS]


def as_row(deed):
    places = deed[1] if deed[0] == "put" else deed[1:]
    return " ".join([deed[0]] + [str(place) for place in places])


def read_fraction(text):
    a, slash, b = text.partition("/")
    return (int(a), int(b) if slash else 1)


def read_laying(text):
    if text == "none":
        return []
    pairs = [part.split(":") for part in text.split(" ")]
    return [(tuple(int(place) for place in some.split(",")), read_fraction(share)) for some, share in pairs]


def no_rows():
    # Rows that are none, whatever web stands.
    rows = [
        "", " ", "  ", "\n", "\t", "hello", "Value", "VALUE", "value?", "values", "val", "value ", " value", "value\n",
        "value\t", "value 0", "value value", "laying 0", "prices 1", "hues 3", "crowd 0 1", "fold yes", "fold ", "drop ",
        "drop 0", "drop 4", " drop", "drop\n", "drops", "put ", "put  0", " put", "put 0 ", "put  ", "put\t0", "put\n",
        "put 0\n", "put 0,1", "put 0-1", "put 0;1", "put (0,)", "put ()", "put none", "put places", "puts 0", "Put 0",
        "put0", "put 0 x", "put x 0", "put 0  1", "put 0\t1", "put 0\n1", "put 0 1 2 x", "tie", "tie ", "tie 0",
        "tie 0 ", "tie 0 1 2", "tie 0 1 ", "tie  0 1", "tie 0  1", " tie 0 1", "tie 0-1", "tie 0,1", "tie 0;1",
        "tie\t0 1", "tie 0\t1", "tie 0 1\n", "tie a b", "tie 0 a", "tie a 0", "tie 0 1 x", "tie01", "Tie 0 1",
        "ties 0 1", "untie", "untie 0", "untie 0 1 2", "untie 0  1", "untie 0-1", "untie a 1", "un tie 0 1",
        "untie 0 1\n", "untied 0 1", "web", "webs", "Web places 1", "web\tplaces 1", "web\nplaces 1", "webplaces 1",
        " web places 1", "WEB places 1", "places 1", "places 2; 0-1", "ok", "none", "yes", "no", "again", "web;",
        "put 0 1\nvalue", "value\nvalue", "value;value", "value; value", "show", "help", "0", "1 2",
    ]
    for number in NO_NUMBERS:
        # With a blank in it such a thing may read as two numbers.
        if number != "1 0":
            rows += [f"put {number}", f"put 0 {number}", f"tie {number} 0", f"tie 0 {number}"]
            rows += [f"untie {number} 0", f"untie 0 {number}"]
    return rows


class AnswersTest(Checks):
    def check_answers(self, desk, web):
        for question in QUESTIONS:
            self.assertIs(type(desk.say(question)), str)
        ones = (1,) * web[0]
        least = value(web)
        self.assertEqual(desk.say("value"), str(Fraction(*least)))
        laying = read_laying(desk.say("laying"))
        self.check_laying(web, laying)
        self.assertTrue(plainly_enough(web, ones, laying), (web, laying))
        self.assertEqual(total(share for some, share in laying), Fraction(*least))
        shown = [",".join(str(place) for place in some) + ":" + str(Fraction(*share)) for some, share in laying]
        self.assertEqual(desk.say("laying"), " ".join(shown) or "none")
        told = desk.say("prices")
        prices = [] if told == "none" else [read_fraction(word) for word in told.split(" ")]
        self.assertEqual(len(prices), web[0])
        self.assertTrue(plainly_prices(web, prices), (web, prices))
        self.assertEqual(worth_of(ones, prices), Fraction(*least))
        self.assertEqual(told, " ".join(str(Fraction(*price)) for price in prices) or "none")
        self.assertEqual(desk.say("hues"), str(fewest(web)[0]))
        self.assertEqual(desk.say("crowd"), " ".join(str(place) for place in greatest_crowd(web)) or "none")
        self.assertEqual(desk.say("fold"), "yes" if fold(web)[0] == "fold" else "no")

    def test_each_kind_of_web(self):
        for web in samples.some_webs() + samples.small_webs():
            desk = Desk()
            self.assertEqual(desk.say("web " + show_web(web)), "ok")
            self.check_answers(desk, web)

    def test_one_web_behind_another(self):
        desk = Desk()
        for web in [ring(5), (0, ()), samples.petersen(), (1, ()), samples.path(4), ring(5)]:
            self.assertEqual(desk.say("web " + show_web(web)), "ok")
            self.check_answers(desk, web)

    def test_drawn_rows(self):
        for seed in range(6):
            chance = Random(200 + seed)
            web = [(0, ()), ring(5), samples.mixed(10, 7, 3)][seed % 3]
            desk = desk_with(web)
            for _ in range(50):
                deed = drawn_deed(web, chance)
                answer = str(web[0]) if deed[0] == "put" else "ok"
                self.assertEqual(desk.say(as_row(deed)), answer, (web, deed))
                web = after(web, deed)
                self.check_answers(desk, web)

    def test_by_hand(self):
        desk = Desk()
        for row, answer in [
            (FIVE, "ok"), ("value", "5/2"), ("laying", "0,2:1/2 0,3:1/2 1,3:1/2 1,4:1/2 2,4:1/2"),
            ("prices", "1/2 1/2 1/2 1/2 1/2"), ("hues", "3"), ("crowd", "0 1"), ("fold", "no"), ("untie 4 0", "ok"),
            ("value", "2"), ("fold", "yes"), ("hues", "2"), ("tie 2 0", "ok"), ("value", "3"), ("crowd", "0 1 2"),
            ("drop", "ok"), ("drop", "ok"), ("laying", "0:1 1:1 2:1"), ("prices", "1 1 1"), ("put", "3"),
            ("put 0 1 2", "4"), ("crowd", "0 1 2 4"), ("value", "4"), ("tie 3 4", "ok"), ("untie 3 4", "ok"),
        ]:
            self.assertEqual(desk.say(row), answer, row)

    def test_without_places(self):
        desk = Desk()
        self.assertEqual(desk.say("web places 0"), "ok")
        self.assertEqual(all_answers(desk), ["0", "none", "none", "0", "none", "yes"])
        self.assertEqual(desk.say("put"), "0")
        self.assertEqual(all_answers(desk), ["1", "0:1", "1", "1", "0", "yes"])
        self.assertEqual(desk.say("put 0"), "1")
        self.assertEqual(desk.say("drop"), "ok")
        self.assertEqual(desk.say("drop"), "ok")
        self.assertEqual(all_answers(desk), ["0", "none", "none", "0", "none", "yes"])

    def test_either_place_first(self):
        one, other = desk_with(samples.loose(4)), desk_with(samples.loose(4))
        for i, j in samples.pairs(range(4)):
            self.assertEqual(one.say(f"tie {i} {j}"), other.say(f"tie {j} {i}"))
            self.assertEqual(all_answers(one), all_answers(other))
        for i, j in samples.pairs(range(4)):
            self.assertEqual(one.say(f"untie {i} {j}"), other.say(f"untie {j} {i}"))
            self.assertEqual(all_answers(one), all_answers(other))

    def test_up_to_ten_places(self):
        desk = desk_with((0, ()))
        for n in range(10):
            self.assertEqual(desk.say(" ".join(["put"] + [str(place) for place in range(n)])), str(n))
        self.check_answers(desk, samples.whole(10))
        self.check_refused(TooMany, desk.say, "put")

    def test_told_alike_soon_and_by_name(self):
        desk = Desk()
        self.assertEqual(desk.say(row=FIVE), "ok")
        for question in QUESTIONS:
            self.check_told_alike(desk.say, question)
        for web in samples.ten_place_webs():
            desk = Desk()
            for row in ["web " + show_web(web)] + QUESTIONS + ["drop", "put 0 2 4", "untie 9 4", "tie 4 9"]:
                self.check_soon(desk.say, row)


class RefusedTest(Checks):
    def check_refused_rows(self, desk, refusal, rows):
        was = all_answers(desk)
        for row in rows:
            self.check_refused(refusal, desk.say, row)
        self.assertEqual(all_answers(desk), was)

    def test_no_row_without_a_web(self):
        desk = Desk()
        rows = no_rows() + QUESTIONS + ["put", "put 0", "put 1 0", "tie 0 1", "tie 0 0", "untie 0 1", "drop"]
        for row in rows:
            self.check_refused(NoRow, desk.say, row)
        for text in no_texts():
            self.check_refused(NoText, desk.say, "web " + text)
        for text in texts_of_no_webs():
            self.check_refused(NoWeb, desk.say, "web " + text)
        for row in rows:
            self.check_refused(NoRow, desk.say, row)
        self.assertEqual(desk.say("web places 1"), "ok")
        self.assertEqual(desk.say("value"), "1")

    def test_no_row(self):
        for web in [(0, ()), (2, ()), ring(5), samples.petersen()]:
            self.check_refused_rows(desk_with(web), NoRow, no_rows())

    def test_no_text_and_no_web(self):
        for web in [(0, ()), ring(5), samples.petersen()]:
            desk = desk_with(web)
            self.check_refused_rows(desk, NoText, ["web " + text for text in no_texts()])
            self.check_refused_rows(desk, NoWeb, ["web " + text for text in texts_of_no_webs()])

    def test_no_place(self):
        for web in [(0, ()), (1, ()), (2, ((0, 1),)), ring(5), samples.loose(10), samples.petersen()]:
            n = web[0]
            rows = []
            for place in (n, n + 1, 11, 100, 999999):
                rows += [f"put {place}", f"put 0 {place}", f"put {place} 0", f"put {place} {place}"]
                for word in ("tie", "untie"):
                    rows += [f"{word} {place} 0", f"{word} 0 {place}", f"{word} {place} {place}"]
            for place in range(n):
                rows += [f"tie {place} {place}", f"untie {place} {place}", f"put {place} {place}"]
            rows += [f"put {j} {i}" for i, j in samples.pairs(range(n))] + ["put 1 0 2", "put 0 2 1", "put 0 1 1"]
            self.check_refused_rows(desk_with(web), NoPlace, rows)

    def test_too_many(self):
        for web in [samples.loose(10), samples.whole(10), samples.petersen()]:
            rows = ["put", "put 0", "put 9", "put 0 9", "put 0 1 2 3 4 5 6 7 8 9"]
            self.check_refused_rows(desk_with(web), TooMany, rows)

    def test_no_tie(self):
        for web in samples.small_webs() + [ring(5), samples.petersen()]:
            rows = []
            for i, j in samples.pairs(range(web[0])):
                word = "tie" if (i, j) in web[1] else "untie"
                rows += [f"{word} {i} {j}", f"{word} {j} {i}"]
            self.check_refused_rows(desk_with(web), NoTie, rows)

    def test_nothing_to_drop(self):
        desk = desk_with((0, ()))
        self.check_refused_rows(desk, NoPlace, ["drop", "drop"])
        desk.say("put")
        desk.say("drop")
        self.check_refused_rows(desk, NoPlace, ["drop"])

    def test_refused_between_deeds(self):
        chance = Random(44)
        web = ring(5)
        desk, other = desk_with(web), desk_with(web)
        wrong = no_rows() + ["web " + text for text in no_texts() + texts_of_no_webs()]
        wrong += ["put 10", "put 1 0", "put 0 0", "tie 0 0", "untie 1 1", "tie 0 10", "untie 10 0"]
        for _ in range(40):
            for row in chance.sample(wrong, 5):
                self.assertIsNotNone(refusal_of(desk.say, (row,)), row)
            deed = drawn_deed(web, chance)
            self.assertEqual(desk.say(as_row(deed)), other.say(as_row(deed)))
            web = after(web, deed)
            self.assertEqual(all_answers(desk), all_answers(other))


class TwoDesksTest(Checks):
    def test_by_turns(self):
        chance = Random(45)
        webs = [ring(5), samples.path(3)]
        desks = [desk_with(web) for web in webs]
        for _ in range(40):
            for k in (0, 1):
                was = all_answers(desks[1 - k])
                deed = drawn_deed(webs[k], chance)
                desks[k].say(as_row(deed))
                webs[k] = after(webs[k], deed)
                self.assertEqual(all_answers(desks[1 - k]), was)
                self.assertEqual(desks[k].say("value"), str(Fraction(*value(webs[k]))))

    def test_a_web_on_one_stands_on_no_other(self):
        one, other = Desk(), Desk()
        one.say("web places 2")
        self.check_refused(NoRow, other.say, "value")
        other.say("web places 2; 0-1")
        self.assertEqual((one.say("value"), other.say("value")), ("1", "2"))
        self.check_refused(NoRow, Desk().say, "value")


if __name__ == "__main__":
    unittest.main()
