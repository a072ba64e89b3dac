"""The module trimpapers of point [7] and point [3] (b), checked against the document's words."""

import itertools
import random
import unittest

from meshmend.errors import NotOne, TooMany
from meshmend.trimchecker import lets_trim
from meshmend.trimpapers import trim_paper
from meshmend.trims import least_trim
from tests.nets import (
    LARGE, SHEETS, ExactTest, all_bars, all_tears, ends_as_told, grown, holes_as_told, knots_as_told,
    odd_as_told, one_holes, samples, squares,
)
from tests.papers import (
    SMALL, TWELVE, all_ends, least_of_all_lots, least_sum, lots_as_told, odd_lots_as_told, some_ends,
    steps_between, told_of_paper, trims_by_size, wrong_as_told,
)

N = (4, 4)
X = (5, 6, 9, 10)


class PaperTest(ExactTest):
    def assert_paper(self, sheet, tear, ends, many):
        """Check what trim_paper does where many is the number of bars of a least trim, or None."""
        amiss = wrong_as_told(sheet, tear, ends)
        if len(amiss) > 8:
            self.assert_raises_number(TooMany, len(amiss), sheet, tear, ends)
            return None
        paper = trim_paper(sheet, tear, ends)
        word = "never" if many is None else "least"
        self.assert_exactly(told_of_paper(sheet, tear, ends, paper), word)
        self.assert_exactly(lets_trim(sheet, tear, ends, paper), word)
        if many is not None:
            self.assertEqual(len(paper[1]), many, (sheet, tear, ends, paper))
        return paper

    def assert_raises_number(self, error, number, sheet, tear, ends):
        with self.assertRaises(error) as seen:
            trim_paper(sheet, tear, ends)
        self.assert_exactly(seen.exception.number, number)

    def test_all_tears_and_ends_on_small_sheets(self):
        for sheet in SMALL:
            tables = trims_by_size(sheet)
            for tear in all_tears(sheet):
                if len(holes_as_told(sheet, tear)) == 1:
                    for ends in all_ends(sheet, tear)[::2]:
                        amiss = wrong_as_told(sheet, tear, ends)
                        self.assert_paper(sheet, tear, ends, least_of_all_lots(tables, tear, amiss))

    def test_sheets_of_up_to_twelve_bars(self):
        dice = random.Random(200)
        for sheet in TWELVE:
            tables = trims_by_size(sheet)
            for sheet, tear in one_holes(201, [sheet], 4):
                for ends in some_ends(sheet, tear, dice, 4):
                    amiss = wrong_as_told(sheet, tear, ends)
                    self.assert_paper(sheet, tear, ends, least_of_all_lots(tables, tear, amiss))

    def test_larger_sheets(self):
        dice = random.Random(202)
        for sheet, tear in one_holes(203, SHEETS[::5] + LARGE[:4]):
            steps = steps_between(sheet, tear)
            for ends in some_ends(sheet, tear, dice, 3):
                amiss = wrong_as_told(sheet, tear, ends)
                self.assert_paper(sheet, tear, ends, least_sum(steps, amiss) if len(amiss) <= 8 else None)

    def test_holes_grown_from_one_bar(self):
        dice = random.Random(204)
        seen = {}
        for sheet in [(4, 4), (5, 6), (8, 3)] + LARGE * 2:
            for size in range(1, 40, 3):
                tear = grown(sheet, dice, size)
                steps = steps_between(sheet, tear)
                for ends in some_ends(sheet, tear, dice, 2):
                    amiss = wrong_as_told(sheet, tear, ends)
                    many = least_sum(steps, amiss) if len(amiss) <= 8 else None
                    paper = self.assert_paper(sheet, tear, ends, many)
                    if paper is not None:
                        key = (paper[0], len(amiss))
                        seen[key] = max(seen.get(key, 0), len(paper[-1]))
        for key in itertools.product(("least", "never"), (2, 4, 6, 8)):
            self.assertIn(key, seen)
        self.assertGreater(seen["least", 8], 8)

    def test_wrong_knots_apart_from_one_another(self):
        # Whole bars join the wrong knots in several lots, each of which has some.
        found = 0
        for sheet, tear in one_holes(205, LARGE + SHEETS[::3], 2):
            for ends in all_ends(sheet, tear)[:30:4]:
                amiss = wrong_as_told(sheet, tear, ends)
                apart = [lot for lot in lots_as_told(sheet, tear) if set(lot) & set(amiss)]
                if len(apart) > 1 and len(amiss) <= 8 and not odd_lots_as_told(sheet, tear, amiss):
                    many = least_sum(steps_between(sheet, tear), amiss)
                    self.assert_paper(sheet, tear, ends, many)
                    found += 1
        self.assertGreater(found, 10)

    def test_nothing_wrong_needs_no_lot(self):
        for sheet in SHEETS:
            for square in squares(sheet):
                self.assert_exactly(trim_paper(sheet, square, ()), ("least", (), ()))
            self.assert_exactly(trim_paper(sheet, (0,), ends_as_told(sheet, 0)), ("least", (), ()))

    def test_lots_without_whole_bars(self):
        self.assert_exactly(trim_paper((1, 1), (0,), ())[0], "never")
        self.assertIn(trim_paper((1, 1), (0,), ())[1], (((0, 0),), ((1, 1),)))
        paper = trim_paper(N, X, ((1, 1), (2, 2)))
        self.assert_exactly(told_of_paper(N, X, ((1, 1), (2, 2)), paper), "never")

    def test_just_eight_wrong_knots_are_not_too_many(self):
        seen = set()
        for sheet, tear in one_holes(206, LARGE, 3):
            for ends in all_ends(sheet, tear)[:40:4]:
                amiss = wrong_as_told(sheet, tear, ends)
                if len(amiss) > 8:
                    self.assert_raises_number(TooMany, len(amiss), sheet, tear, ends)
                    seen.add((len(amiss), bool(odd_lots_as_told(sheet, tear, amiss))))
                elif len(amiss) == 8:
                    word = trim_paper(sheet, tear, ends)[0]
                    self.assertEqual(word == "never", bool(odd_lots_as_told(sheet, tear, amiss)))
                    seen.add((8, word))
        self.assertTrue({(8, "least"), (8, "never"), (10, True), (10, False)} <= seen)

    def test_not_one_hole(self):
        for sheet, tear in samples(207):
            many = len(holes_as_told(sheet, tear))
            if many != 1:
                self.assert_raises_number(NotOne, many, sheet, tear, ())
        bars = tuple([row * 8 + col for row in (0, 2, 4, 6) for col in (0, 2, 4, 6)])
        self.assert_raises_number(NotOne, 16, (8, 8), bars, ())

    def test_the_trim_is_as_short_as_a_least_trim(self):
        for ends in all_ends(N, X):
            if not odd_lots_as_told(N, X, wrong_as_told(N, X, ends)):
                self.assertEqual(len(trim_paper(N, X, ends)[1]), len(least_trim(N, X, ends)))

    def test_the_same_call_gets_the_same_answer(self):
        cases = []
        for sheet, tear in one_holes(208, SHEETS[::6]):
            for ends in all_ends(sheet, tear)[:3]:
                if len(wrong_as_told(sheet, tear, ends)) <= 8:
                    before = repr((sheet, tear, ends))
                    cases.append((sheet, tear, ends, repr(trim_paper(sheet, tear, ends))))
                    self.assertEqual(repr((sheet, tear, ends)), before)
        for sheet, tear, ends, told in reversed(cases):
            self.assertEqual(repr(trim_paper(sheet, tear, ends)), told)

    def test_arguments_by_name(self):
        self.assert_exactly(trim_paper(ends=(), tear=X, sheet=N), trim_paper(N, X, ()))

    def test_no_trim_has_fewer_bars_than_a_paper_has_lots(self):
        # All trims, not just the least ones.
        for sheet in [(2, 4), (4, 2), (3, 3)]:
            numbers, table = trims_by_size(sheet)
            for tear in [tear for tear in all_tears(sheet) if len(tear) in (2, 3)]:
                if len(holes_as_told(sheet, tear)) == 1:
                    paper = trim_paper(sheet, tear, ())
                    amiss = odd_as_told(sheet, tear)
                    masks = table.get(sum(1 << numbers[knot] for knot in amiss), [])
                    lacking = sum(1 << bar for bar in tear)
                    trims = [mask for mask in masks if not mask & lacking]
                    self.assertEqual(paper[0] == "never", not trims)
                    for mask in trims:
                        self.assertGreaterEqual(bin(mask).count("1"), len(paper[2]))

    def test_all_bars_but_one(self):
        for sheet in SHEETS:
            for bar in all_bars(sheet)[::7]:
                tear = tuple([other for other in all_bars(sheet) if other != bar])
                amiss = odd_as_told(sheet, tear)
                if len(holes_as_told(sheet, tear)) == 1 and len(amiss) <= 8:
                    many = None
                    if not amiss:
                        many = 0
                    elif set(amiss) == set(ends_as_told(sheet, bar)):
                        many = 1
                    self.assert_paper(sheet, tear, (), many)

    def test_knots_of_lots_are_knots_of_the_sheet(self):
        for sheet, tear in one_holes(209, SHEETS[::4]):
            if len(odd_as_told(sheet, tear)) <= 8:
                paper = trim_paper(sheet, tear, ())
                lots = paper[2] if paper[0] == "least" else paper[1:]
                for lot in lots:
                    self.assertTrue(set(lot) <= set(knots_as_told(sheet)))


if __name__ == "__main__":
    unittest.main()
