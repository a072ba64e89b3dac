"""The module trims of point [7] of the document, checked against its own words."""

import itertools
import random
import unittest

from meshmend.errors import NoTrim, NotOne, TooMany
from meshmend.plans import fewest
from meshmend.tears import tear_error
from meshmend.trims import easiest, least_trim, wrong
from tests.nets import (
    LARGE, SHEETS, ExactTest, all_bars, all_tears, ends_as_told, grown, holes_as_told, knots_as_told,
    odd_as_told, one_holes, samples, squares,
)
from tests.papers import (
    SMALL, TWELVE, all_ends, is_trim, least_of_all_lots, least_sum, odd_lots_as_told, some_ends,
    steps_between, trims_by_size, wrong_as_told,
)

N = (4, 4)
X = (5, 6, 9, 10)


def easiest_as_told(odd_knots, least):
    """What easiest tells; least tells the least number of bars for wrong knots."""
    best = None
    for ends in [()] + list(itertools.combinations(odd_knots, 2)):
        many = least([knot for knot in odd_knots if knot not in ends])
        if many is not None and (best is None or (many, ends) < best):
            best = (many, ends)
    return best


class TrimTest(ExactTest):
    def assert_least_trim(self, sheet, tear, ends, many):
        """Check what least_trim does where many is the number of bars, or None."""
        amiss = wrong_as_told(sheet, tear, ends)
        self.assertEqual(many is None, bool(odd_lots_as_told(sheet, tear, amiss)))
        if len(amiss) > 8:
            with self.assertRaises(TooMany) as seen:
                least_trim(sheet, tear, ends)
            self.assert_exactly(seen.exception.number, len(amiss))
        elif many is None:
            with self.assertRaises(NoTrim) as seen:
                least_trim(sheet, tear, ends)
            self.assert_exactly(seen.exception.lot, odd_lots_as_told(sheet, tear, amiss)[0])
        else:
            found = least_trim(sheet, tear, ends)
            self.assertTrue(is_trim(sheet, tear, ends, found), (sheet, tear, ends, found))
            self.assertEqual(len(found), many, (sheet, tear, ends, found))

    def assert_easiest(self, sheet, tear, least):
        """Check what easiest tells; least tells the least number of bars for wrong knots."""
        odd_knots = odd_as_told(sheet, tear)
        if len(odd_knots) > 8:
            with self.assertRaises(TooMany) as seen:
                easiest(sheet, tear)
            self.assert_exactly(seen.exception.number, len(odd_knots))
        else:
            self.assert_exactly(easiest(sheet, tear), easiest_as_told(odd_knots, least))

    def assert_too_many(self, number, call, *given):
        with self.assertRaises(TooMany) as seen:
            call(*given)
        self.assert_exactly(seen.exception.number, number)

    def assert_no_trim(self, lot, sheet, tear, ends):
        with self.assertRaises(NoTrim) as seen:
            least_trim(sheet, tear, ends)
        self.assert_exactly(seen.exception.lot, lot)


class WrongTest(TrimTest):
    def test_no_ends(self):
        for sheet, tear in one_holes(100, SHEETS):
            self.assert_exactly(wrong(sheet, tear, ()), odd_as_told(sheet, tear))

    def test_ends_of_all_kinds(self):
        for sheet, tear in one_holes(101, SHEETS[::3]):
            for ends in all_ends(sheet, tear)[::5]:
                self.assert_exactly(wrong(sheet, tear, ends), wrong_as_told(sheet, tear, ends))

    def test_all_ends_on_small_sheets(self):
        for sheet in SMALL:
            for tear in all_tears(sheet):
                if len(holes_as_told(sheet, tear)) == 1:
                    for ends in all_ends(sheet, tear):
                        self.assert_exactly(wrong(sheet, tear, ends), wrong_as_told(sheet, tear, ends))

    def test_both_one_or_no_end_odd(self):
        self.assert_exactly(wrong(N, X, ((1, 1), (1, 3))), ((3, 1), (3, 3)))
        self.assert_exactly(wrong(N, X, ((1, 1), (2, 2))), ((1, 3), (2, 2), (3, 1), (3, 3)))
        self.assert_exactly(wrong(N, (1, 2, 5, 6), ((0, 2), (2, 2))), ((0, 2), (2, 2)))
        self.assert_exactly(wrong(N, (1, 2, 5, 6), ()), ())
        self.assert_exactly(wrong(N, (0,), ((0, 0), (1, 1))), ())

    def test_more_wrong_knots_than_a_trim_may_have(self):
        tear = all_bars((8, 8))[1::2]
        for hole in holes_as_told((8, 8), tear):
            self.assert_exactly(wrong((8, 8), hole, ()), odd_as_told((8, 8), hole))


class LeastTrimTest(TrimTest):
    def test_all_lots_of_whole_bars_on_small_sheets(self):
        for sheet in SMALL:
            tables = trims_by_size(sheet)
            for tear in all_tears(sheet):
                if len(holes_as_told(sheet, tear)) == 1:
                    for ends in all_ends(sheet, tear):
                        amiss = wrong_as_told(sheet, tear, ends)
                        self.assert_least_trim(sheet, tear, ends, least_of_all_lots(tables, tear, amiss))

    def test_all_lots_of_whole_bars_on_sheets_of_up_to_twelve_bars(self):
        dice = random.Random(102)
        for sheet in TWELVE:
            tables = trims_by_size(sheet)
            for sheet, tear in one_holes(103, [sheet], 6):
                for ends in some_ends(sheet, tear, dice, 6):
                    amiss = wrong_as_told(sheet, tear, ends)
                    self.assert_least_trim(sheet, tear, ends, least_of_all_lots(tables, tear, amiss))

    def test_shortest_ways_on_larger_sheets(self):
        dice = random.Random(104)
        for sheet, tear in one_holes(105, SHEETS[::5] + LARGE[:4]):
            steps = steps_between(sheet, tear)
            for ends in some_ends(sheet, tear, dice, 3):
                amiss = wrong_as_told(sheet, tear, ends)
                if len(amiss) <= 8:
                    self.assert_least_trim(sheet, tear, ends, least_sum(steps, amiss))

    def test_holes_grown_from_one_bar(self):
        dice = random.Random(106)
        many = {}
        for sheet in [(4, 4), (5, 6), (8, 3)] + LARGE * 2:
            for size in range(1, 40, 3):
                tear = grown(sheet, dice, size)
                steps = steps_between(sheet, tear)
                for ends in some_ends(sheet, tear, dice, 2):
                    amiss = wrong_as_told(sheet, tear, ends)
                    many[len(amiss)] = many.get(len(amiss), 0) + 1
                    if len(amiss) <= 8:
                        self.assert_least_trim(sheet, tear, ends, least_sum(steps, amiss))
                    else:
                        self.assert_too_many(len(amiss), least_trim, sheet, tear, ends)
        self.assertEqual([number for number in (2, 4, 6, 8, 10) if many.get(number, 0) < 5], [])

    def test_nothing_wrong_needs_no_bar(self):
        for sheet in SHEETS:
            for square in squares(sheet):
                self.assert_exactly(least_trim(sheet, square, ()), ())
            self.assert_exactly(least_trim(sheet, (0,), ends_as_told(sheet, 0)), ())

    def test_a_way_round_what_lacks(self):
        # The knots (1, 3) and (3, 1) are two bars apart, but those lack.
        self.assertEqual(len(least_trim(N, X, ((1, 1), (3, 3)))), 4)
        self.assert_exactly(least_trim(N, (5, 6, 10), ((2, 2), (3, 3))), (1, 2))

    def test_no_trim_with_the_first_lot(self):
        rest = tuple([knot for knot in knots_as_told(N) if knot != (2, 2)])
        self.assert_no_trim(rest, N, X, ((1, 1), (2, 2)))
        # Beside the lone knot (0, 0) stands a lot of all others: it comes behind.
        self.assert_no_trim(((0, 0),), N, (0,), ())
        others = tuple([knot for knot in knots_as_told(N) if knot != (4, 4)])
        self.assert_no_trim(others, N, (15,), ())
        self.assert_no_trim(((0, 0),), (1, 1), (0,), ())
        self.assert_no_trim(((0, 2),), (2, 2), (0, 1), ((0, 0), (1, 1)))

    def test_the_first_lot_need_not_hold_the_first_wrong_knot(self):
        found = 0
        for sheet, tear in one_holes(107, SHEETS[::2]):
            for ends in all_ends(sheet, tear)[:12]:
                amiss = wrong_as_told(sheet, tear, ends)
                odd_lots = odd_lots_as_told(sheet, tear, amiss)
                if odd_lots and len(amiss) <= 8:
                    self.assert_no_trim(odd_lots[0], sheet, tear, ends)
                    found += min([knot for lot in odd_lots for knot in set(lot) & set(amiss)]) not in odd_lots[0]
        self.assertGreater(found, 0)

    def test_just_eight_wrong_knots_are_not_too_many(self):
        seen = set()
        for sheet, tear in one_holes(108, LARGE, 4):
            for ends in all_ends(sheet, tear)[:40:3]:
                amiss = wrong_as_told(sheet, tear, ends)
                seen.add(len(amiss))
                if len(amiss) > 8:
                    self.assert_too_many(len(amiss), least_trim, sheet, tear, ends)
                elif len(amiss) == 8 and not odd_lots_as_told(sheet, tear, amiss):
                    self.assertTrue(is_trim(sheet, tear, ends, least_trim(sheet, tear, ends)))
        self.assertTrue({8, 10, 12} <= seen)

    def test_too_many_also_where_there_is_no_trim(self):
        found = 0
        for sheet, tear in one_holes(109, LARGE, 3):
            amiss = wrong_as_told(sheet, tear, ())
            if len(amiss) > 8 and odd_lots_as_told(sheet, tear, amiss):
                self.assert_too_many(len(amiss), least_trim, sheet, tear, ())
                self.assert_too_many(len(amiss), easiest, sheet, tear)
                found += 1
        self.assertGreater(found, 0)

    def test_one_twine_does_behind_a_least_trim(self):
        dice = random.Random(110)
        for sheet, tear in one_holes(111, SHEETS):
            for ends in some_ends(sheet, tear, dice, 1):
                amiss = wrong_as_told(sheet, tear, ends)
                if len(amiss) <= 8 and not odd_lots_as_told(sheet, tear, amiss):
                    mended = tuple(sorted(tear + least_trim(sheet, tear, ends)))
                    self.assert_exactly(tear_error(sheet, mended), None)
                    self.assertEqual(fewest(sheet, mended), len(holes_as_told(sheet, mended)))


class EasiestTest(TrimTest):
    def test_all_tears_of_small_sheets(self):
        nones = 0
        for sheet in SMALL + [(3, 3)]:
            tables = trims_by_size(sheet)
            for tear in all_tears(sheet):
                if len(holes_as_told(sheet, tear)) == 1:
                    self.assert_easiest(sheet, tear, lambda amiss: least_of_all_lots(tables, tear, amiss))
                    nones += len(odd_as_told(sheet, tear)) <= 8 and easiest(sheet, tear) is None
        self.assertGreater(nones, 0)

    def test_larger_sheets(self):
        for sheet, tear in one_holes(112, SHEETS[::4] + LARGE[:4]):
            steps = steps_between(sheet, tear) if len(odd_as_told(sheet, tear)) <= 8 else None
            self.assert_easiest(sheet, tear, lambda amiss: least_sum(steps, amiss))

    def test_no_odd_knots_ask_for_no_ends(self):
        for sheet in SHEETS:
            for square in squares(sheet):
                self.assert_exactly(easiest(sheet, square), (0, ()))

    def test_two_odd_knots_are_the_ends(self):
        for sheet in SHEETS:
            for bar in all_bars(sheet):
                self.assert_exactly(easiest(sheet, (bar,)), (0, ends_as_told(sheet, bar)))

    def test_none_for_any_ends(self):
        # All four odd knots of all bars of a sheet are without whole bars.
        for sheet in ((2, 2), (4, 4), (8, 8), (2, 8)):
            self.assert_exactly(easiest(sheet, all_bars(sheet)), None)

    def test_too_many_tells_the_odd_knots(self):
        numbers = set()
        for sheet, tear in one_holes(113, LARGE, 6):
            many = len(odd_as_told(sheet, tear))
            if many > 8:
                self.assert_too_many(many, easiest, sheet, tear)
                numbers.add(many)
            elif many == 8:
                easiest(sheet, tear)
                numbers.add(many)
        self.assertTrue({8, 10, 12} <= numbers)


class NotOneTest(TrimTest):
    def assert_not_one(self, number, sheet, tear, ends):
        for call, given in ((wrong, (ends,)), (least_trim, (ends,)), (easiest, ())):
            with self.assertRaises(NotOne) as seen:
                call(sheet, tear, *given)
            self.assert_exactly(seen.exception.number, number)

    def test_no_tear_is_no_hole(self):
        for sheet in SHEETS:
            self.assert_not_one(0, sheet, (), ())

    def test_just_where_there_is_not_one_hole(self):
        dice = random.Random(114)
        for sheet, tear in samples(115):
            many = len(holes_as_told(sheet, tear))
            if many != 1:
                ends = dice.choice(all_ends(sheet, tear))
                self.assert_not_one(many, sheet, tear, ends)
            else:
                wrong(sheet, tear, ())

    def test_ahead_of_too_many_and_of_no_trim(self):
        # Sixteen bars, no two of which have a knot in common.
        bars = tuple([row * 8 + col for row in (0, 2, 4, 6) for col in (0, 2, 4, 6)])
        self.assertEqual(len(odd_as_told((8, 8), bars)), 32)
        self.assert_not_one(16, (8, 8), bars, ())
        self.assert_not_one(2, N, (0, 15), ())
        self.assert_not_one(4, N, (0, 3, 12, 15), ((0, 0), (4, 4)))


class TogetherTest(TrimTest):
    def test_easiest_is_the_least_of_the_least_trims(self):
        for sheet, tear in one_holes(116, SHEETS[::3]):
            odd_knots = odd_as_told(sheet, tear)
            if len(odd_knots) <= 6:
                found = []
                for ends in [()] + list(itertools.combinations(odd_knots, 2)):
                    try:
                        found.append((len(least_trim(sheet, tear, ends)), ends))
                    except NoTrim:
                        pass
                self.assert_exactly(easiest(sheet, tear), min(found, default=None))

    def test_the_arguments_stay_and_the_same_call_gets_the_same_answer(self):
        cases = []
        for sheet, tear in one_holes(117, LARGE):
            ends = all_ends(sheet, tear)[-1]
            if len(wrong_as_told(sheet, tear, ends)) <= 8 and len(odd_as_told(sheet, tear)) <= 8:
                before = repr((sheet, tear, ends))
                cases.append((sheet, tear, ends, self.answers(sheet, tear, ends)))
                self.assertEqual(repr((sheet, tear, ends)), before)
        self.assertGreater(len(cases), 10)
        for sheet, tear, ends, answers in reversed(cases):
            self.assertEqual(self.answers(sheet, tear, ends), answers)

    def answers(self, sheet, tear, ends):
        try:
            trim = repr(least_trim(sheet, tear, ends))
        except NoTrim as error:
            trim = repr(error.lot)
        return (trim, repr(wrong(sheet, tear, ends)), repr(easiest(sheet, tear)))

    def test_arguments_by_name(self):
        ends = ((1, 1), (1, 3))
        self.assert_exactly(wrong(ends=ends, tear=X, sheet=N), ((3, 1), (3, 3)))
        self.assert_exactly(least_trim(ends=ends, tear=X, sheet=N), least_trim(N, X, ends))
        self.assert_exactly(easiest(tear=X, sheet=N), (2, ((1, 1), (1, 3))))

    def test_the_example_of_the_document(self):
        found = [wrong(N, X, ((1, 1), (2, 2))), len(least_trim(N, X, ())), easiest(N, X)]
        self.assert_exactly(found, [((1, 3), (2, 2), (3, 1), (3, 3)), 4, (2, ((1, 1), (1, 3)))])


if __name__ == "__main__":
    unittest.main()
