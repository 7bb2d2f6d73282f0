"""Checks that several tests make: what is refused, what stays as it was, and what is told anew."""

import copy
import time
import unittest
from math import gcd

from tests import samples

A_FEW_SECONDS = 5


def refusal_of(asked, handed):
    try:
        asked(*handed)
    except Exception as error:
        return type(error)
    return None


def spoil(told):
    # Changes all of an answer that can be changed, the innermost first.
    for thing in list(told.values()) if isinstance(told, dict) else list(told):
        if isinstance(thing, (list, tuple, dict)):
            spoil(thing)
    if isinstance(told, list):
        told.clear()
        told.append("spoilt")
    if isinstance(told, dict):
        told.clear()
        told["spoilt"] = "spoilt"


class Checks(unittest.TestCase):
    def check_refused(self, refusal, asked, *handed):
        # The first failure ends the test: what isn't refused may be walked without end further on.
        was = copy.deepcopy(handed)
        self.assertIs(refusal_of(asked, handed), refusal, (asked.__name__, handed))
        self.assertEqual(repr(handed), repr(was))

    def check_told_alike(self, asked, *handed):
        was = copy.deepcopy(handed)
        told = asked(*handed)
        self.assertEqual(repr(handed), repr(was))
        kept = copy.deepcopy(told)
        if isinstance(told, (list, tuple, dict)):
            spoil(told)
        self.assertEqual(repr(handed), repr(was))
        self.assertEqual(repr(asked(*handed)), repr(kept), (asked.__name__, handed))

    def check_is_told(self, is_told, asked, *handed):
        # Told is True or False itself, and nothing that is handed in is changed.
        was = copy.deepcopy(handed)
        self.assertIs(asked(*handed), is_told, (asked.__name__, handed))
        self.assertEqual(repr(handed), repr(was))

    def check_wholes(self, *numbers):
        self.assertTrue(all(type(number) is int for number in numbers), numbers)

    def check_set(self, n, some):
        self.assertIs(type(some), tuple)
        self.check_wholes(*some)
        self.assertEqual(list(some), sorted(set(some)))
        self.assertTrue(all(0 <= place < n for place in some), some)

    def check_web(self, web):
        self.assertIs(type(web), tuple)
        n, ties = web
        self.check_wholes(n)
        self.assertTrue(0 <= n <= 10, n)
        self.assertIs(type(ties), tuple)
        self.assertEqual(list(ties), sorted(set(ties)))
        for tie in ties:
            self.check_set(n, tie)
            self.assertEqual(len(tie), 2)

    def check_fraction(self, told):
        self.assertIs(type(told), tuple)
        a, b = told
        self.check_wholes(a, b)
        self.assertGreaterEqual(b, 1)
        self.assertEqual(gcd(a, b), 1)

    def check_laying(self, web, laying):
        self.assertIs(type(laying), list)
        for share in laying:
            self.assertIs(type(share), tuple)
            some, fraction = share
            self.check_set(web[0], some)
            self.assertTrue(samples.plainly_apart(web, some), (web, some))
            self.check_fraction(fraction)
            self.assertGreater(fraction[0], 0)
        sets = [some for some, fraction in laying]
        self.assertEqual(sets, sorted(set(sets)))

    def check_soon(self, asked, *handed):
        begun = time.process_time()
        told = asked(*handed)
        self.assertLess(time.process_time() - begun, A_FEW_SECONDS, (asked.__name__, handed))
        return told
