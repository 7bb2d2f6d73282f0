"""Promise 20, and what promise 2 says of it: webs and fractions as texts."""

import unittest
from random import Random

from hueshare.errors import NoText, NoWeb
from hueshare.shapes import ring
from hueshare.texts import read_web, show_fraction, show_web
from tests import samples
from tests.checks import Checks, refusal_of

SIGNS = [chr(code) for code in range(ord(" "), ord("~") + 1)] + ["\t", "\n", "\r", "\r\n", "\x0b", "\x0c"]
NO_NUMBERS = [
    "", " ", "00", "01", "007", "000000", "0000000", "1000000", "1234567", "9" * 30, "9" * 5000, "-0", "-1", "+1", "+0",
    "1.0", "1.", ".1", "1e1", "1_0", "0x1", "0b1", "a", "O", "l", "one", "None", "True", "1 ", " 1", "1\t", "\t1",
    "1\n", "\n1", "1\r", "1,", ",1", "(1)", "[1]", "'1'", "1/1", "1:", "1;", ";", "-", "1 0", "1\t0", "--1",
    "\u0661", "\u00b2", "\uff11",
]


def texts_to_change():
    return ["places 0", "places 1", "places 10", "places 2; 0-1", "places 3; 0-1; 1-2", show_web(samples.petersen())]


def no_texts():
    texts = [
        "", " ", "places", "places ", "place 2", "Places 2", "PLACES 2", "places2", "places  2", " places 2", "places 2 ",
        "places\t2", "places\n2", "places 2\n", "\nplaces 2", "places 2\t", "places: 2", "places 2.", "places 2,",
        "places 2;", "places 2; ", "places 2 ;", "places 2;0-1", "places 2 ; 0-1", "places 2;  0-1", "places 2; 0-1;",
        "places 2; 0-1; ", "places 2; 0-1 ", "places 2; 0-1\n", "places 2;\t0-1", "places 2;\n0-1", "places 2, 0-1",
        "places 2: 0-1", "places 2 0-1", "places 2; 0 -1", "places 2; 0- 1", "places 2; 0 - 1", "places 2; 0--1",
        "places 2; 0-", "places 2; -1", "places 2; -", "places 2; 0", "places 2; 0,1", "places 2; 0 1", "places 2; 01",
        "places 2; 0-1-2", "places 2; 0-1-", "places 2; -0-1", "places 2; (0, 1)", "places 2; 0:1", "places 2; 0_1",
        "places 2;; 0-1", "places 2; ; 0-1", "places 2; 0-1; ; 0-1", "; 0-1", "0-1", "places; 0-1", "places ; 0-1",
        "places 2 2", "places 2; places 2", "places 2; 0-1; places 2", "web places 2", "(2, ((0, 1),))", "2", "2; 0-1",
        "places 3; 0-1; 1-2 ", "places 3; 0-1;1-2", "places 3; 0-1, 1-2", "places 3; 0-1 1-2", "places 3; 0-1\n; 1-2",
        "places two", "places n", "places N", "places N; I-J", "places 2; I-J", "places 2\x0b", "places 2\x0c; 0-1",
    ]
    texts += [f"places {number}" for number in NO_NUMBERS]
    texts += [f"places 5; {number}-4" for number in NO_NUMBERS] + [f"places 5; 0-{number}" for number in NO_NUMBERS]
    return texts + [f"places 5; 0-1; 0-{number}; 2-3" for number in NO_NUMBERS]


def texts_of_no_webs():
    return [
        "places 11", "places 12", "places 100", "places 999999", "places 11; 0-1", "places 999999; 0-1",
        "places 0; 0-1", "places 1; 0-1", "places 2; 0-2", "places 2; 1-2", "places 2; 0-999999", "places 2; 1-0",
        "places 2; 0-0", "places 2; 1-1", "places 2; 0-1; 0-1", "places 3; 0-1; 0-1; 1-2", "places 3; 0-2; 0-1",
        "places 3; 1-2; 0-1", "places 3; 0-1; 2-1", "places 10; 0-10", "places 10; 9-10", "places 10; 9-9",
        "places 3; 999999-999999", "places 4; 0-1; 2-3; 1-2",
    ]


class ShowWebTest(Checks):
    def test_by_hand(self):
        self.assertEqual(show_web((0, ())), "places 0")
        self.assertEqual(show_web((1, ())), "places 1")
        self.assertEqual(show_web((10, ())), "places 10")
        self.assertEqual(show_web((2, ((0, 1),))), "places 2; 0-1")
        self.assertEqual(show_web(ring(5)), "places 5; 0-1; 0-4; 1-2; 2-3; 3-4")
        self.assertEqual(show_web((10, ((0, 9), (8, 9)))), "places 10; 0-9; 8-9")

    def test_there_and_back(self):
        webs = samples.some_webs() + samples.small_webs() + samples.all_webs(5)[::7]
        for web in webs + samples.drawn_webs(range(6, 11), 42):
            text = show_web(web)
            self.assertIs(type(text), str)
            self.assertEqual(text, f"places {web[0]}" + "".join(f"; {i}-{j}" for i, j in web[1]))
            told = read_web(text)
            self.check_web(told)
            self.assertEqual(told, web)
            self.assertEqual(show_web(told), text)

    def test_no_web(self):
        for thing in samples.no_webs():
            self.check_refused(NoWeb, show_web, thing)

    def test_told_alike_soon_and_by_name(self):
        for web in [(0, ()), ring(5), samples.petersen()]:
            self.check_told_alike(show_web, web)
            self.check_told_alike(read_web, show_web(web))
        for web in samples.ten_place_webs():
            self.check_soon(read_web, self.check_soon(show_web, web))
        self.assertEqual(show_web(web=(1, ())), "places 1")
        self.assertEqual(read_web(text="places 1"), (1, ()))


class ReadWebTest(Checks):
    def test_no_text(self):
        for text in no_texts():
            self.check_refused(NoText, read_web, text)

    def test_no_web(self):
        for text in texts_of_no_webs():
            self.check_refused(NoWeb, read_web, text)

    def test_no_text_goes_ahead(self):
        for text in texts_of_no_webs():
            for more in (";", "; ", " ", "; 0", "; 0-", "; 0-01", "; 0-1000000", "; a-b", "\n"):
                self.check_refused(NoText, read_web, text + more)

    def test_six_figures_and_no_more(self):
        self.check_refused(NoWeb, read_web, "places 100000")
        self.check_refused(NoText, read_web, "places 1000000")
        self.check_refused(NoWeb, read_web, "places 2; 0-100000")
        self.check_refused(NoText, read_web, "places 2; 0-1000000")

    def test_each_sign_left_out_put_in_or_exchanged(self):
        # What is changed by one sign is refused, or it is a text of just what it says.
        for text in texts_to_change():
            changed = {text[:k] + text[k + 1:] for k in range(len(text))}
            for sign in SIGNS:
                changed |= {text[:k] + sign + text[k:] for k in range(len(text) + 1)}
                changed |= {text[:k] + sign + text[k + 1:] for k in range(len(text))}
            for other in sorted(changed):
                self.check_read_or_refused(other)

    def check_read_or_refused(self, text):
        refusal = refusal_of(read_web, (text,))
        if refusal is None:
            self.assertEqual(show_web(read_web(text)), text)
        else:
            self.assertIn(refusal, (NoText, NoWeb), text)
            self.assertEqual(refusal is NoWeb, self.is_well_written(text), text)

    def is_well_written(self, text):
        # Figures apart from what stands between them, and put together anew.
        numbers = "".join(sign if sign in "0123456789" else " " for sign in text).split()
        ties = list(zip(numbers[1::2], numbers[2::2]))
        short = all(len(number) < 7 and str(int(number)) == number for number in numbers)
        return short and text == f"places {numbers[0]}" + "".join(f"; {i}-{j}" for i, j in ties) if numbers else False

    def test_drawn_texts(self):
        chance = Random(43)
        for _ in range(3000):
            words = ["places ", "; ", "0", "1", "2", "-", "0-1", " ", ";", "places 2", "\n"]
            self.check_read_or_refused("".join(chance.choice(words) for _ in range(chance.randrange(8))))


class ShowFractionTest(Checks):
    def test_by_hand(self):
        for fraction, text in [
            ((0, 1), "0"), ((1, 1), "1"), ((10, 1), "10"), ((5, 2), "5/2"), ((1, 2), "1/2"), ((29, 10), "29/10"),
            ((1, 10 ** 9), "1/1000000000"), ((10 ** 9, 1), "1000000000"), ((7, 10), "7/10"), ((1, 11), "1/11"),
        ]:
            self.assertEqual(show_fraction(fraction), text)

    def test_each(self):
        for a in range(30):
            for b in range(1, 30):
                text = show_fraction((a, b))
                self.assertIs(type(text), str)
                self.assertEqual(text, f"{a}" if b == 1 else f"{a}/{b}")

    def test_told_alike_and_by_name(self):
        self.check_told_alike(show_fraction, (5, 2))
        self.assertEqual(show_fraction(fraction=(3, 2)), "3/2")


if __name__ == "__main__":
    unittest.main()
