"""Point [5] of the document, checked against its own words."""

import copy
import random
import unittest

from meshmend.sheets import bars_of, ends_of, knots
from meshmend.tears import holes, lacks, lost, odd, tear_error
from tests.nets import (
    LARGE, ODD_VALUES, SHEETS, ExactTest, all_bars, all_tears, at_as_told, holes_as_told,
    knots_as_told, odd_as_told, plain_tears, samples, squares, tears_of, without,
)

N = (4, 4)
X = (5, 6, 9, 10)


def tear_error_as_told(sheet, value):
    if type(value) is not tuple:
        return -1
    for number, item in enumerate(value):
        if type(item) is not int or item not in all_bars(sheet):
            return number
        if number and item <= value[number - 1]:
            return number
    return None


def lost_as_told(sheet, tear):
    return tuple([
        knot for knot in knots_as_told(sheet)
        if at_as_told(sheet, tear, knot) == at_as_told(sheet, all_bars(sheet), knot)
    ])


def bent(sheet, tear, dice):
    """A value that was a tear: an item put in, put otherwise, or moved."""
    items, at = list(tear), dice.randrange(len(tear) + 1)
    new = dice.choice([
        -1, len(all_bars(sheet)), dice.choice(all_bars(sheet)), True, False, None, "0", (0,), [0], 10 ** 39,
    ])
    way = dice.randrange(5)
    if way == 0:
        items.insert(at, new)
    elif way == 1:
        items[at:at + 1] = [new]
    elif way == 2:
        dice.shuffle(items)
    elif way == 3:
        items.extend(items[at:at + 2])
    else:
        items.reverse()
    return tuple(items)


class TearErrorTest(ExactTest):
    def test_none_for_all_tears(self):
        for sheet, tear in samples(51):
            self.assert_exactly(tear_error(sheet, tear), None)
        for sheet in ((1, 1), (1, 4), (3, 1), (2, 2), (3, 3)):
            for tear in all_tears(sheet):
                self.assert_exactly(tear_error(sheet, tear), None)

    def test_what_is_no_tuple(self):
        for value in (None, True, False, 0, -1, 5, "", "0", [], [0], [0, 1], {}, {0: 1}, [()], [(0,)]):
            for sheet in ((1, 1), (4, 4), (8, 8)):
                with self.subTest(value=value, sheet=sheet):
                    self.assert_exactly(tear_error(sheet, value), -1)

    def test_tears_turned_about(self):
        for sheet, tear in samples(52):
            expected = None if len(tear) < 2 else 1
            self.assert_exactly(tear_error(sheet, tear[::-1]), expected)

    def test_a_bar_twice(self):
        for sheet, tear in samples(53):
            for at in range(0, len(tear), 5):
                value = tear[:at + 1] + tear[at:]
                self.assert_exactly(tear_error(sheet, value), at + 1)

    def test_a_bar_out_of_bounds(self):
        for sheet in SHEETS:
            bars = all_bars(sheet)
            for new in (-1, -2, len(bars), len(bars) + 1, 10 ** 40 - 1, -(10 ** 40 - 1)):
                self.assert_exactly(tear_error(sheet, (new,)), 0)
                self.assert_exactly(tear_error(sheet, bars + (new,)), len(bars))
                self.assert_exactly(tear_error(sheet, (new,) + bars), 0)

    def test_a_truth_in_the_place_of_a_bar(self):
        for sheet in SHEETS:
            self.assert_exactly(tear_error(sheet, (False,)), 0)
            self.assert_exactly(tear_error(sheet, (True,)), 0)
            if sheet[0] * sheet[1] > 2:
                self.assert_exactly(tear_error(sheet, (0, True, 2)), 1)
                self.assert_exactly(tear_error(sheet, (False, 1)), 0)

    def test_other_items(self):
        for item in (None, "", "1", (), (1,), [], [1], {}, {1: 1}, (1, 1)):
            self.assert_exactly(tear_error(N, (0, item, 2)), 1)
            self.assert_exactly(tear_error(N, (0, 1, item)), 2)
            self.assert_exactly(tear_error(N, (item,)), 0)

    def test_the_first_wrong_item_is_told(self):
        self.assert_exactly(tear_error(N, (5, 6, 6)), 2)
        self.assert_exactly(tear_error(N, (5, 4, 99)), 1)
        self.assert_exactly(tear_error(N, (5, 99, 4)), 1)
        self.assert_exactly(tear_error(N, (5, True, None)), 1)
        self.assert_exactly(tear_error(N, (3, 9, 7, 8, "a")), 2)
        self.assert_exactly(tear_error(N, (15, 16)), 1)

    def test_odd_values_and_bent_tears(self):
        for sheet in ((1, 1), (2, 2), (3, 4), (8, 8)):
            for value in ODD_VALUES:
                expected = tear_error_as_told(sheet, value)
                self.assert_exactly(tear_error(sheet, value), expected)
        dice = random.Random(54)
        for sheet, tear in samples(55):
            value = bent(sheet, tear, dice)
            with self.subTest(sheet=sheet, value=value):
                self.assert_exactly(tear_error(sheet, value), tear_error_as_told(sheet, value))

    def test_the_value_stays_as_it_was(self):
        for value in ODD_VALUES + ([3, 2], (1, [2]), X):
            before = copy.deepcopy(value)
            tear_error(N, value)
            self.assert_exactly(value, before)


class KnotsOfTearsTest(ExactTest):
    def test_lacks_odd_and_lost(self):
        for sheet, tear in samples(56):
            before = tear[:]
            for knot in knots_as_told(sheet):
                self.assert_exactly(lacks(sheet, tear, knot), len(at_as_told(sheet, tear, knot)))
            self.assert_exactly(odd(sheet, tear), odd_as_told(sheet, tear))
            self.assert_exactly(lost(sheet, tear), lost_as_told(sheet, tear))
            self.assert_exactly(tear, before)

    def test_all_tears_of_small_sheets(self):
        for sheet in ((1, 1), (1, 2), (2, 1), (2, 2), (2, 3), (3, 3)):
            for tear in all_tears(sheet):
                self.assert_exactly(odd(sheet, tear), odd_as_told(sheet, tear))
                self.assert_exactly(lost(sheet, tear), lost_as_told(sheet, tear))

    def test_no_tear_and_all_bars(self):
        for sheet in SHEETS:
            self.assert_exactly(odd(sheet, ()), ())
            self.assert_exactly(lost(sheet, ()), ())
            self.assert_exactly(lost(sheet, all_bars(sheet)), knots(sheet))
            corners = [knot for knot in knots(sheet) if len(bars_of(sheet, knot)) == 1]
            self.assert_exactly(odd(sheet, all_bars(sheet)), tuple(corners))

    def test_one_bar(self):
        self.assert_exactly(odd((2, 2), (0,)), ((0, 0), (1, 1)))
        self.assert_exactly(lost((2, 2), (0,)), ((0, 0),))
        self.assert_exactly(lost((1, 1), (0,)), ((0, 0), (1, 1)))
        self.assert_exactly(lacks((2, 2), (0,), (2, 2)), 0)
        self.assert_exactly(lacks((2, 2), (0,), (0, 0)), 1)


class HolesTest(ExactTest):
    def test_holes_of_all_kinds(self):
        for sheet, tear in samples(57):
            before = tear[:]
            found = holes(sheet, tear)
            self.assert_exactly(found, holes_as_told(sheet, tear))
            self.assert_exactly(holes(sheet, tear), found)
            self.assert_exactly(tear, before)

    def test_all_tears_of_small_sheets(self):
        for sheet in ((1, 1), (1, 5), (4, 1), (2, 2), (3, 2), (3, 3)):
            for tear in all_tears(sheet):
                self.assert_exactly(holes(sheet, tear), holes_as_told(sheet, tear))

    def test_no_tear_has_no_hole(self):
        for sheet in SHEETS:
            self.assert_exactly(holes(sheet, ()), ())

    def test_all_bars_are_one_hole(self):
        for sheet in SHEETS:
            self.assert_exactly(holes(sheet, all_bars(sheet)), (all_bars(sheet),))

    def test_large_sheets(self):
        dice = random.Random(58)
        for sheet in LARGE:
            tears = plain_tears(sheet)
            tears += [without(all_bars(sheet), dice.sample(all_bars(sheet), k)) for k in range(1, 20)]
            for tear in tears:
                self.assert_exactly(holes(sheet, tear), holes_as_told(sheet, tear))

    def test_holes_that_touch_where_no_knot_is(self):
        # The fields of the bars 0 and 5 touch at the place (1, 1), a knot,
        # those of the bars 1 and 6 at the place (1, 2), which is none.
        self.assert_exactly(holes(N, (0, 5)), ((0, 5),))
        self.assert_exactly(holes(N, (1, 6)), ((1,), (6,)))
        self.assert_exactly(holes(N, (0, 1)), ((0, 1),))
        self.assert_exactly(holes(N, (1, 2)), ((1, 2),))
        self.assert_exactly(holes(N, (0, 3)), ((0,), (3,)))

    def test_the_order_is_that_of_the_first_bars(self):
        # The bar 5 stands amid the numbers of the other hole.
        self.assert_exactly(holes((2, 6), (1, 2, 5, 7, 8)), ((1, 2, 7, 8), (5,)))
        self.assert_exactly(holes((1, 8), (0, 3, 4, 7)), ((0,), (3, 4), (7,)))
        self.assert_exactly(holes((3, 3), (0, 2, 6, 8)), ((0,), (2,), (6,), (8,)))
        self.assert_exactly(holes((3, 3), (0, 2, 4, 6, 8)), ((0, 4, 8), (2,), (6,)))


class TogetherTest(ExactTest):
    def test_the_bars_that_lack_at_all_knots_are_twice_as_many(self):
        for sheet, tear in samples(59):
            self.assertEqual(sum(lacks(sheet, tear, knot) for knot in knots(sheet)), 2 * len(tear))

    def test_an_even_number_of_knots_is_odd_in_each_hole(self):
        for sheet, tear in samples(60):
            self.assertEqual(len(odd(sheet, tear)) % 2, 0)
            together = []
            for hole in holes(sheet, tear):
                self.assertEqual(len(odd(sheet, hole)) % 2, 0)
                together.extend(odd(sheet, hole))
            self.assert_exactly(tuple(sorted(together)), odd(sheet, tear))

    def test_holes_are_disjoint_and_make_up_the_tear(self):
        for sheet, tear in samples(61):
            found = holes(sheet, tear)
            self.assert_exactly(tuple(sorted(sum(found, ()))), tear)
            at = [knot for hole in found for knot in {end for bar in hole for end in ends_of(sheet, bar)}]
            self.assertEqual(len(set(at)), len(at))
            for hole in found:
                self.assert_exactly(tear_error(sheet, hole), None)
                self.assert_exactly(holes(sheet, hole), (hole,))

    def test_a_bar_more_or_less_turns_its_two_ends(self):
        dice = random.Random(62)
        for sheet in SHEETS:
            for tear in tears_of(sheet, dice):
                bar = dice.choice(all_bars(sheet))
                other = tuple(sorted(set(tear) ^ {bar}))
                turned = set(odd(sheet, tear)) ^ set(odd(sheet, other))
                self.assertEqual(turned, set(ends_of(sheet, bar)))

    def test_squares_have_no_odd_knots(self):
        for sheet in SHEETS:
            for square in squares(sheet):
                self.assert_exactly(odd(sheet, square), ())
                self.assertEqual(len(holes(sheet, square)), 1)

    def test_the_same_call_gets_the_same_answer(self):
        calls = (
            (tear_error, (N, (5, 6, 6))), (lacks, (N, X, (2, 2))), (odd, (N, X)), (lost, (N, X)),
            (holes, (N, X + (15,))), (holes, (N, (0, 3, 12, 15))),
        )
        first = [repr(call(*given)) for call, given in calls]
        for sheet, tear in samples(63, LARGE):
            holes(sheet, tear)
            odd(sheet, tear)
        self.assertEqual([repr(call(*given)) for call, given in calls], first)

    def test_arguments_by_name(self):
        self.assert_exactly(tear_error(value=(5, 6, 6), sheet=N), 2)
        self.assert_exactly(lacks(knot=(2, 2), tear=X, sheet=N), 4)
        self.assert_exactly(odd(tear=X, sheet=N), ((1, 1), (1, 3), (3, 1), (3, 3)))
        self.assert_exactly(lost(tear=X, sheet=N), ((2, 2),))
        self.assert_exactly(holes(tear=X, sheet=N), (X,))

    def test_the_example_of_the_document(self):
        found = [
            tear_error(N, (5, 6, 6)), lacks(N, X, (2, 2)), odd(N, X), lost(N, X), holes(N, X + (15,)),
        ]
        self.assert_exactly(found, [
            2, 4, ((1, 1), (1, 3), (3, 1), (3, 3)), ((2, 2),), ((5, 6, 9, 10, 15),),
        ])


if __name__ == "__main__":
    unittest.main()
