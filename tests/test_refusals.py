"""What webs and apart refuse, with which error, and in which order."""

import unittest

from hueshare.apart import full_apart, full_crowds, greatest_apart, greatest_crowd, is_apart, is_crowd
from hueshare.errors import NoPlace, NoWeb
from hueshare.webs import are_tied, neighbours
from tests import samples
from tests.checks import Checks

OF_A_WEB = [full_apart, full_crowds, greatest_apart, greatest_crowd]
OF_A_SET = [is_apart, is_crowd]
WEBS = [(0, ()), (1, ()), (3, ((0, 1),)), samples.ring(5), samples.petersen()]


class RefusalsTest(Checks):
    def test_no_web(self):
        for thing in samples.no_webs():
            for asked in OF_A_WEB:
                self.check_refused(NoWeb, asked, thing)
            for asked in OF_A_SET:
                self.check_refused(NoWeb, asked, thing, ())
                self.check_refused(NoWeb, asked, thing, (0, 1))
            self.check_refused(NoWeb, are_tied, thing, 0, 1)
            self.check_refused(NoWeb, neighbours, thing, 0)

    def test_no_web_goes_ahead_of_no_place(self):
        for thing in samples.no_webs():
            for place in (-1, 10 ** 30, True, None, "0", (0,)):
                self.check_refused(NoWeb, neighbours, thing, place)
                self.check_refused(NoWeb, are_tied, thing, place, 0)
                self.check_refused(NoWeb, are_tied, thing, 0, place)
            for some in ((1, 0), (-1,), (True,), [0], None, (10 ** 30,)):
                for asked in OF_A_SET:
                    self.check_refused(NoWeb, asked, thing, some)

    def test_no_place(self):
        for web in WEBS:
            for wrong in samples.no_places(web[0]):
                self.check_refused(NoPlace, neighbours, web, wrong)
                self.check_refused(NoPlace, are_tied, web, wrong, wrong)
                for place in range(web[0]):
                    self.check_refused(NoPlace, are_tied, web, wrong, place)
                    self.check_refused(NoPlace, are_tied, web, place, wrong)

    def test_no_set(self):
        for web in WEBS:
            for asked in OF_A_SET:
                for wrong in samples.no_sets(web[0]):
                    self.check_refused(NoPlace, asked, web, wrong)

    def test_each_set_that_is_turned_about(self):
        for some in samples.sets_of(5):
            if len(some) > 1:
                for asked in OF_A_SET:
                    self.check_refused(NoPlace, asked, samples.ring(5), some[::-1])
                    self.check_refused(NoPlace, asked, samples.ring(5), some + some[-1:])

    def test_by_name(self):
        for asked in OF_A_SET:
            with self.assertRaises(NoWeb):
                asked(some=[0], web=None)
            with self.assertRaises(NoPlace):
                asked(some=[0], web=(1, ()))


if __name__ == "__main__":
    unittest.main()
