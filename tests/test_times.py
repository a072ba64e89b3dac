"""No call takes long, also for large sheets all of whose bars lack."""

import time
import unittest

from meshmend.errors import TooMany
from meshmend.plans import fewest, plan, plan_error
from meshmend.tears import holes, lost, odd, tear_error
from meshmend.trims import easiest, least_trim, wrong
from tests.nets import LARGE, all_bars, laid_over, one_holes, squares

# Far more than any call needs, and far less than going through all plans takes.
SECONDS = 5


class TimesTest(unittest.TestCase):
    def assert_quick(self, call, *given):
        begun = time.monotonic()
        try:
            found = call(*given)
        except TooMany:
            found = None
        self.assertLess(time.monotonic() - begun, SECONDS, (call, given))
        return found

    def test_all_bars_and_all_squares(self):
        for sheet in LARGE:
            for tear in (all_bars(sheet), all_bars(sheet)[1:], all_bars(sheet)[::2], laid_over(squares(sheet))):
                for call in (odd, lost, holes, fewest):
                    self.assert_quick(call, sheet, tear)
                self.assert_quick(tear_error, sheet, tear)
                found = self.assert_quick(plan, sheet, tear)
                self.assertIsNone(self.assert_quick(plan_error, sheet, tear, found))

    def test_long_values(self):
        sheet, tear = (8, 8), all_bars((8, 8))
        there_and_back = (((0, 0), (1, 1)) * 650,)
        self.assertEqual(self.assert_quick(plan_error, sheet, tear, there_and_back), (0, "twice"))
        single = (((0, 0), (1, 1)),) * 650
        self.assertEqual(self.assert_quick(plan_error, sheet, tear, single), (1, "twice"))
        self.assertEqual(self.assert_quick(tear_error, sheet, tuple(range(4000))), 64)

    def test_trims(self):
        for sheet, tear in one_holes(120, LARGE):
            self.assert_quick(wrong, sheet, tear, ())
            self.assert_quick(easiest, sheet, tear)
            if not odd(sheet, tear):
                self.assert_quick(least_trim, sheet, tear, ())


if __name__ == "__main__":
    unittest.main()
