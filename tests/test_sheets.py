"""Point [4] of the document, checked against its own words.

The expected values are compared by their repr where a truth could pass for an
integer: Python calls True and 1 equal.
"""

import copy
import unittest

from meshmend.sheets import are_opposite, bar_between, bars_of, ends_of, knots, sheet_error
from tests.nets import SHEETS, ExactTest, all_bars, ends_as_told, is_knot_as_told

NO_INTEGERS = (
    True, False, None, "", "2", "deep", (), (2,), [], [2], {}, {2: 2}, (2, 2), ((2,),),
)
OUT_OF_BOUNDS = (0, -1, -2, -8, 9, 10, 200, 10 ** 40 - 1, -(10 ** 40 - 1))

NO_PAIRS = (
    None, True, False, 0, 2, 10 ** 40 - 1, "", "2", "22", "ab", "sheet", "2, 2",
    (), (2,), (2, 2, 2), (0,), (True,), (9, 9, 9), (2,) * 4000,
    [], [2], [2, 2], [2, 2, 2], [(2, 2)], {}, {2: 2}, {2: 2, 3: 3},
    ((2, 2),), ([2, 2],), [[2, 2], [2, 2]], (((2, 2),),), ((2, 2), (2, 2), (2, 2)),
)


def sides_at(sheet, bar, knot):
    """The words "upper" or "lower", "left" or "right" for a bar at a knot."""
    ends = ends_as_told(sheet, bar)
    far = ends[0] if ends[1] == knot else ends[1]
    return ("upper" if far[0] < knot[0] else "lower", "left" if far[1] < knot[1] else "right")


def opposite_as_told(sheet, one, other):
    for knot in ends_as_told(sheet, one):
        if knot in ends_as_told(sheet, other):
            here, there = sides_at(sheet, one, knot), sides_at(sheet, other, knot)
            if here[0] != there[0] and here[1] != there[1]:
                return True
    return False


class SheetErrorTest(ExactTest):
    def test_none_for_all_sheets_and_for_no_other_sides(self):
        for deep in range(-3, 13):
            for wide in range(-3, 13):
                expected = None
                if not 1 <= wide <= 8:
                    expected = "wide"
                if not 1 <= deep <= 8:
                    expected = "deep"
                with self.subTest(deep=deep, wide=wide):
                    self.assert_exactly(sheet_error((deep, wide)), expected)

    def test_what_is_no_pair(self):
        for value in NO_PAIRS:
            with self.subTest(value=value):
                self.assert_exactly(sheet_error(value), "sheet")

    def test_wrong_deep_is_told_whatever_wide_is(self):
        for deep in NO_INTEGERS + OUT_OF_BOUNDS:
            for wide in NO_INTEGERS + OUT_OF_BOUNDS + (1, 2, 8):
                with self.subTest(deep=deep, wide=wide):
                    self.assert_exactly(sheet_error((deep, wide)), "deep")

    def test_wrong_wide_is_told_behind_a_right_deep(self):
        for deep in range(1, 9):
            for wide in NO_INTEGERS + OUT_OF_BOUNDS:
                with self.subTest(deep=deep, wide=wide):
                    self.assert_exactly(sheet_error((deep, wide)), "wide")

    def test_truths_are_no_sides(self):
        self.assert_exactly(sheet_error((True, 1)), "deep")
        self.assert_exactly(sheet_error((1, True)), "wide")
        self.assert_exactly(sheet_error((True, True)), "deep")
        self.assert_exactly(sheet_error((False, True)), "deep")

    def test_deeply_nested_values(self):
        value = (2, 2)
        for _ in range(10):
            value = (value, value)
        self.assert_exactly(sheet_error(value), "deep")
        value = [2, 2]
        for _ in range(10):
            value = [value]
        self.assert_exactly(sheet_error(value), "sheet")
        self.assert_exactly(sheet_error((1, value)), "wide")
        self.assert_exactly(sheet_error({"deep": value}), "sheet")

    def test_the_value_stays_as_it_was(self):
        values = NO_PAIRS + ((2, 2), (2, [1, [2]]), ([3], 1), [2, 2], {"deep": [2], "wide": 2})
        for value in values:
            before = repr(copy.deepcopy(value))
            sheet_error(value)
            self.assertEqual(repr(value), before)


class KnotsTest(ExactTest):
    def test_places_with_an_even_sum_ascending(self):
        for sheet in SHEETS:
            expected = []
            for row in range(sheet[0] + 1):
                for col in range(sheet[1] + 1):
                    if is_knot_as_told(sheet, row, col):
                        expected.append((row, col))
            with self.subTest(sheet=sheet):
                self.assert_exactly(knots(sheet), tuple(expected))

    def test_the_least_sheets(self):
        self.assert_exactly(knots((1, 1)), ((0, 0), (1, 1)))
        self.assert_exactly(knots((1, 2)), ((0, 0), (0, 2), (1, 1)))
        self.assert_exactly(knots((2, 1)), ((0, 0), (1, 1), (2, 0)))


class EndsOfTest(ExactTest):
    def test_ends_of_all_bars(self):
        for sheet in SHEETS:
            for bar in all_bars(sheet):
                with self.subTest(sheet=sheet, bar=bar):
                    self.assert_exactly(ends_of(sheet, bar), ends_as_told(sheet, bar))

    def test_the_bars_round_the_knot_amid_a_sheet(self):
        found = [ends_of((2, 2), bar) for bar in range(4)]
        self.assert_exactly(found, [
            ((0, 0), (1, 1)), ((0, 2), (1, 1)), ((1, 1), (2, 0)), ((1, 1), (2, 2)),
        ])

    def test_narrow_and_shallow_sheets(self):
        self.assert_exactly(ends_of((3, 1), 1), ((1, 1), (2, 0)))
        self.assert_exactly(ends_of((3, 1), 2), ((2, 0), (3, 1)))
        self.assert_exactly(ends_of((1, 3), 1), ((0, 2), (1, 1)))
        self.assert_exactly(ends_of((1, 3), 2), ((0, 2), (1, 3)))


class BarsOfTest(ExactTest):
    def test_bars_of_all_knots_ascending(self):
        for sheet in SHEETS:
            for knot in knots(sheet):
                bars = [bar for bar in all_bars(sheet) if knot in ends_as_told(sheet, bar)]
                with self.subTest(sheet=sheet, knot=knot):
                    self.assert_exactly(bars_of(sheet, knot), tuple(sorted(bars)))

    def test_knots_amid_at_the_rim_and_in_corners(self):
        self.assert_exactly(bars_of((2, 2), (1, 1)), (0, 1, 2, 3))
        self.assert_exactly(bars_of((2, 2), (0, 2)), (1,))
        self.assert_exactly(bars_of((3, 4), (0, 2)), (1, 2))
        self.assert_exactly(bars_of((3, 4), (3, 1)), (8, 9))
        self.assert_exactly(bars_of((4, 3), (2, 0)), (3, 6))
        self.assert_exactly(bars_of((1, 1), (1, 1)), (0,))


class BarBetweenTest(ExactTest):
    def test_all_pairs_of_knots_in_either_order(self):
        for sheet in SHEETS:
            joined = {}
            for bar in all_bars(sheet):
                upper, lower = ends_as_told(sheet, bar)
                joined[upper, lower] = joined[lower, upper] = bar
            wrong = [
                (one, other, bar_between(sheet, one, other))
                for one in knots(sheet) for other in knots(sheet)
                if repr(bar_between(sheet, one, other)) != repr(joined.get((one, other)))
            ]
            self.assertEqual(wrong, [], sheet)

    def test_no_bar_between_a_knot_and_itself(self):
        for sheet in SHEETS:
            for knot in knots(sheet):
                self.assertIsNone(bar_between(sheet, knot, knot))

    def test_no_bar_along_a_row_or_a_column(self):
        self.assertIsNone(bar_between((2, 2), (0, 0), (0, 2)))
        self.assertIsNone(bar_between((2, 2), (2, 0), (0, 0)))
        self.assertIsNone(bar_between((2, 2), (0, 0), (2, 2)))
        self.assertIsNone(bar_between((4, 4), (0, 0), (1, 3)))
        self.assertIsNone(bar_between((4, 4), (3, 1), (0, 0)))


class AreOppositeTest(ExactTest):
    def test_all_pairs_of_unlike_bars(self):
        for sheet in SHEETS:
            bars = all_bars(sheet)
            wrong = [
                (one, other) for one in bars for other in bars
                if one != other and repr(are_opposite(sheet, one, other))
                != repr(opposite_as_told(sheet, one, other))
            ]
            self.assertEqual(wrong, [], sheet)

    def test_at_a_knot(self):
        opposite = [
            (one, other) for one in range(4) for other in range(4)
            if one != other and are_opposite((2, 2), one, other)
        ]
        self.assertEqual(opposite, [(0, 3), (1, 2), (2, 1), (3, 0)])

    def test_fields_that_touch_where_no_knot_is(self):
        # Around the place (1, 2) of this sheet the bars make a ring.
        for one, other in ((1, 6), (2, 5), (6, 1), (5, 2)):
            self.assert_exactly(are_opposite((2, 4), one, other), False)

    def test_bars_in_one_line_without_a_common_knot(self):
        self.assert_exactly(are_opposite((3, 3), 0, 4), True)
        self.assert_exactly(are_opposite((3, 3), 4, 8), True)
        self.assert_exactly(are_opposite((3, 3), 0, 8), False)

    def test_bars_whose_numbers_stand_over_the_rim(self):
        # The bars 3 and 8 differ as two opposite bars do, but are at two rims.
        self.assert_exactly(are_opposite((3, 4), 3, 8), False)
        self.assert_exactly(are_opposite((3, 1), 0, 1), False)


class TogetherTest(ExactTest):
    def test_a_bar_is_at_its_two_ends_and_at_no_other_knot(self):
        for sheet in SHEETS:
            at = {bar: [] for bar in all_bars(sheet)}
            for knot in knots(sheet):
                for bar in bars_of(sheet, knot):
                    at[bar].append(knot)
            for bar in all_bars(sheet):
                self.assert_exactly(tuple(at[bar]), ends_of(sheet, bar))

    def test_a_bar_is_between_its_two_ends(self):
        for sheet in SHEETS:
            for bar in all_bars(sheet):
                upper, lower = ends_of(sheet, bar)
                self.assert_exactly(bar_between(sheet, upper, lower), bar)
                self.assert_exactly(bar_between(sheet, lower, upper), bar)

    def test_the_bars_at_all_knots_are_twice_as_many_as_all_bars(self):
        for sheet in SHEETS:
            total = sum(len(bars_of(sheet, knot)) for knot in knots(sheet))
            self.assertEqual(total, 2 * sheet[0] * sheet[1])

    def test_two_pairs_of_opposite_bars_just_at_four_bars(self):
        for sheet in SHEETS:
            for knot in knots(sheet):
                bars = bars_of(sheet, knot)
                pairs = [
                    (one, other) for one in bars for other in bars
                    if one < other and are_opposite(sheet, one, other)
                ]
                self.assertIn(len(bars), (1, 2, 4))
                self.assertEqual(len(pairs), 2 if len(bars) == 4 else 0)

    def test_the_upper_end_is_a_row_above_the_lower_one(self):
        for sheet in SHEETS:
            for bar in all_bars(sheet):
                upper, lower = ends_of(sheet, bar)
                self.assertEqual(upper[0] + 1, lower[0])
                self.assertIn(upper, knots(sheet))
                self.assertIn(lower, knots(sheet))

    def test_the_same_call_gets_the_same_answer(self):
        calls = (
            (sheet_error, ((2, 9),)), (knots, ((3, 4),)), (ends_of, ((3, 4), 5)),
            (bars_of, ((3, 4), (1, 1))), (bar_between, ((3, 4), (1, 1), (2, 2))),
            (are_opposite, ((3, 4), 0, 5)),
        )
        first = [repr(call(*given)) for call, given in calls]
        for sheet in SHEETS:
            knots(sheet)
        self.assertEqual([repr(call(*given)) for call, given in calls], first)

    def test_arguments_by_name(self):
        self.assertEqual(sheet_error(value=(2, 9)), "wide")
        self.assertEqual(knots(sheet=(1, 1)), ((0, 0), (1, 1)))
        self.assertEqual(ends_of(bar=1, sheet=(2, 2)), ((0, 2), (1, 1)))
        self.assertEqual(bars_of(knot=(1, 1), sheet=(2, 3)), (0, 1, 3, 4))
        self.assertEqual(bar_between(other=(1, 1), one=(2, 2), sheet=(2, 2)), 3)
        self.assert_exactly(are_opposite(other=3, one=0, sheet=(2, 2)), True)

    def test_the_examples_of_the_document(self):
        found = [
            sheet_error((2, 9)), knots((2, 2)), ends_of((2, 2), 1), bars_of((2, 3), (1, 1)),
            bar_between((2, 2), (2, 2), (1, 1)), are_opposite((2, 2), 0, 3),
            are_opposite((2, 2), 0, 1),
        ]
        self.assert_exactly(found, [
            "wide", ((0, 0), (0, 2), (1, 1), (2, 0), (2, 2)), ((0, 2), (1, 1)),
            (0, 1, 3, 4), 3, True, False,
        ])
        middle = [
            bar_between((2, 2), (1, 1), other) for other in ((0, 0), (0, 2), (2, 0), (2, 2))
        ]
        self.assert_exactly(middle, [0, 1, 2, 3])


if __name__ == "__main__":
    unittest.main()
