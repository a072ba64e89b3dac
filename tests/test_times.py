"""No call takes long, also for large sheets all of whose bars lack."""

import time
import unittest

from meshmend.edges import edge_error, even_edge, fall, is_even, round_of, takings
from meshmend.errors import BadExchange, NoPaper
from meshmend.exchanges import done, exchanges
from meshmend.lofts import Loft
from meshmend.plans import fewest, plan, plan_error
from meshmend.rings import crossings, loops, ring_at, ring_number, ring_of, rings, turning_of
from meshmend.tears import holes, lost, odd, tear_error
from meshmend.trimchecker import lets_trim
from meshmend.trimpapers import trim_paper
from meshmend.trims import easiest, least_trim, wrong
from tests.nets import LARGE, all_bars, knots_as_told, laid_over, one_holes, squares
from tests.turns import even_holes

# Far more than any call needs, and far less than going through all plans takes.
SECONDS = 5


class TimesTest(unittest.TestCase):
    def assert_quick(self, call, *given):
        begun = time.monotonic()
        try:
            return call(*given)
        finally:
            self.assertLess(time.monotonic() - begun, SECONDS, (call, given))

    def test_all_bars_and_all_squares(self):
        for sheet in LARGE:
            for tear in (all_bars(sheet), all_bars(sheet)[1:], all_bars(sheet)[::2], laid_over(squares(sheet))):
                for call in (odd, lost, holes, fewest):
                    self.assert_quick(call, sheet, tear)
                self.assert_quick(tear_error, sheet, tear)
                found = self.assert_quick(plan, sheet, tear)
                self.assertIsNone(self.assert_quick(plan_error, sheet, tear, found))

    def test_long_values(self):
        sheet, tear = (8, 8), all_bars((8, 8))
        there_and_back = (((0, 0), (1, 1)) * 650,)
        self.assertEqual(self.assert_quick(plan_error, sheet, tear, there_and_back), (0, "twice"))
        single = (((0, 0), (1, 1)),) * 650
        self.assertEqual(self.assert_quick(plan_error, sheet, tear, single), (1, "twice"))
        self.assertEqual(self.assert_quick(tear_error, sheet, tuple(range(4000))), 64)

    def test_long_papers(self):
        sheet, tear = (8, 8), (27,)
        lot = tuple(knots_as_told(sheet))
        with self.assertRaises(NoPaper):
            self.assert_quick(lets_trim, sheet, tear, (), ("least", (), (lot,) * 90))
        with self.assertRaises(NoPaper):
            self.assert_quick(lets_trim, sheet, tear, (), ("never", lot * 30))
        with self.assertRaises(NoPaper):
            self.assert_quick(lets_trim, sheet, tear, (), ("least", tuple(range(28, 64)) * 100, ()))

    def test_trims(self):
        for sheet, tear in one_holes(120, LARGE):
            self.assert_quick(wrong, sheet, tear, ())
            if len(odd(sheet, tear)) <= 8:
                self.assert_quick(easiest, sheet, tear)
                paper = self.assert_quick(trim_paper, sheet, tear, ())
                self.assertEqual(self.assert_quick(lets_trim, sheet, tear, (), paper), paper[0])
                if paper[0] == "least":
                    self.assert_quick(least_trim, sheet, tear, ())

    def test_exchanges(self):
        for sheet, tear in even_holes(122, LARGE):
            one, other = ring_at(sheet, tear, 0), ring_at(sheet, tear, rings(sheet, tear) - 1)
            there = self.assert_quick(exchanges, sheet, tear, one, other)
            if there:
                many = (there + there[::-1]) * (650 // len(there))
                self.assertEqual(self.assert_quick(done, sheet, tear, one, many), one)
                with self.assertRaises(BadExchange):
                    self.assert_quick(done, sheet, tear, one, many + (None,))

    def test_edges(self):
        edge = self.assert_quick(even_edge, 200, 198)
        for value in (edge, "B" * 200, "NB" * 100, "TBB" * 66):
            for call in (edge_error, fall, is_even, round_of):
                self.assert_quick(call, value)
        self.assert_quick(edge_error, "N" * 3000)
        self.assert_quick(takings, 1000, 999)

    def test_lofts(self):
        sheet = (8, 8)
        x = Loft(sheet, tear=all_bars(sheet))
        x.listen(lambda loft: (loft.holes(), loft.odd(), str(loft)))
        self.assert_quick(x.mend_all, plan(sheet, x.tear))
        for bar in range(29):
            self.assert_quick(x.rip, bar)
        for _ in range(30):
            self.assert_quick(x.undo)

    def test_rings(self):
        for sheet, tear in even_holes(121, LARGE):
            self.assert_quick(crossings, sheet, tear)
            many = self.assert_quick(rings, sheet, tear)
            turning = self.assert_quick(ring_at, sheet, tear, many - 1)
            self.assertEqual(self.assert_quick(ring_number, sheet, tear, turning), many - 1)
            self.assertEqual(self.assert_quick(loops, sheet, tear, turning), 1)
            twine = self.assert_quick(ring_of, sheet, tear, turning)
            self.assertEqual(self.assert_quick(turning_of, sheet, tear, twine), turning)


if __name__ == "__main__":
    unittest.main()
