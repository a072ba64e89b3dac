"""The module rings of point [8] and point [3] (c), checked against the document's own words."""

import random
import unittest

from meshmend.errors import NoRing, NotEven, NotOne
from meshmend.plans import fewest, plan, plan_error
from meshmend.rings import crossings, loops, ring_at, ring_number, ring_of, rings, turning_of
from tests.nets import (
    LARGE, ODD_VALUES, SHEETS, ExactTest, at_as_told, holes_as_told, laid_over, odd_as_told,
    samples, squares,
)
from tests.turns import (
    all_turnings, crossings_as_told, even_holes, loops_as_told, ring_as_told, ring_from, whole_as_told,
)

M = (4, 6)
Q = (1, 2, 3, 4, 7, 8, 9, 10, 13, 14, 15, 16, 19, 20, 21, 22)
WHOLE = ((0, 0, 1, 0), (0, 1, 0, 0), (0, 1, 1, 1), (1, 1, 1, 0))
MIDDLE = [(4, 6), (5, 5), (6, 4), (5, 7), (7, 4), (3, 8), (6, 6)]

# In how many ways the lines of a grid of so many points join them all, with none to spare.
GRIDS = {(1, 1): 1, (1, 2): 1, (1, 3): 1, (1, 4): 1, (2, 2): 4, (2, 3): 15, (2, 4): 56, (3, 3): 192, (3, 4): 2415}


def calls(turning, twine):
    """All functions of the module with what they take behind the sheet and the tear."""
    return (
        (crossings, ()), (loops, (turning,)), (rings, ()), (ring_at, (0,)), (ring_at, (None,)),
        (ring_number, (turning,)), (ring_number, (None,)), (ring_of, (turning,)), (turning_of, (twine,)),
    )


def about(ring, dice):
    """The same ring, begun anywhere and either way about."""
    at = dice.randrange(len(ring) - 1)
    found = ring[at:] + ring[1:at + 1]
    return found if dice.random() < 0.5 else found[::-1]


class TurningsTest(ExactTest):
    def test_crossings(self):
        seen = set()
        for sheet, tear in even_holes(300, SHEETS + LARGE):
            self.assert_exactly(crossings(sheet, tear), crossings_as_told(sheet, tear))
            seen.add(len(crossings(sheet, tear)))
        self.assertTrue(set(range(12)) <= seen)

    def test_loops_of_all_turnings(self):
        seen = set()
        for sheet, tear in even_holes(301, SHEETS + LARGE, most=5):
            for turning in all_turnings(sheet, tear):
                self.assert_exactly(loops(sheet, tear, turning), loops_as_told(sheet, tear, turning))
                seen.add(loops(sheet, tear, turning))
        self.assertTrue(set(range(1, 6)) <= seen)

    def test_loops_of_holes_with_more_crossings(self):
        dice, seen = random.Random(302), set()
        for sheet, tear in even_holes(303, LARGE, 3):
            for _ in range(3):
                turning = tuple([dice.randrange(2) for _ in crossings_as_told(sheet, tear)])
                self.assert_exactly(loops(sheet, tear, turning), loops_as_told(sheet, tear, turning))
                seen.add(len(turning))
        self.assertGreater(max(seen), 14)

    def test_loops_at_one_crossing(self):
        # Two squares side by side: the turn 0 makes one ring of them.
        beside = (1, 2, 3, 4, 7, 8, 9, 10)
        self.assert_exactly(crossings((2, 6), beside), ((1, 3),))
        self.assert_exactly([loops((2, 6), beside, (0,)), loops((2, 6), beside, (1,))], [1, 2])
        self.assert_exactly(ring_at((2, 6), beside, 0), (0,))
        # One above another: the turn 1 does.
        above = (1, 2, 5, 6, 9, 10, 13, 14)
        self.assert_exactly(crossings((4, 4), above), ((2, 2),))
        self.assert_exactly([loops((4, 4), above, (0,)), loops((4, 4), above, (1,))], [2, 1])
        self.assert_exactly(ring_at((4, 4), above, 0), (1,))


class NumbersTest(ExactTest):
    def test_how_many_are_whole(self):
        seen = {}
        for sheet, tear in even_holes(310, SHEETS + MIDDLE, most=7):
            found = whole_as_told(sheet, tear)
            self.assert_exactly(rings(sheet, tear), len(found))
            at = len(crossings_as_told(sheet, tear))
            seen[at] = max(seen.get(at, 0), len(found))
        self.assertEqual(sorted(seen), list(range(8)))
        self.assertEqual(seen[0], 1)
        self.assertGreater(seen[7], 10)

    def test_grids_of_squares(self):
        for sheet in SHEETS:
            for start in (0, 1):
                parts = [part for part in squares(sheet) if part[0] // sheet[1] % 2 == start]
                tear = laid_over(parts)
                if len(holes_as_told(sheet, tear)) == 1:
                    rows = len({part[0] // sheet[1] for part in parts})
                    grid = tuple(sorted((rows, len(parts) // rows)))
                    self.assert_exactly(rings(sheet, tear), GRIDS[grid])

    def test_numbers_there_and_back(self):
        seen = set()
        for sheet, tear in even_holes(311, SHEETS + MIDDLE, most=7):
            for number, turning in enumerate(whole_as_told(sheet, tear)):
                self.assert_exactly(ring_at(sheet, tear, number), turning)
                self.assert_exactly(ring_number(sheet, tear, turning), number)
                seen.add(len(turning))
        self.assertEqual(seen, set(range(8)))

    def test_numbers_of_holes_with_more_crossings(self):
        dice, seen = random.Random(312), set()
        for sheet, tear in even_holes(313, LARGE, 2):
            many = rings(sheet, tear)
            numbers = sorted({0, many // 2, many - 1, dice.randrange(many), dice.randrange(many)})
            found = [ring_at(sheet, tear, number) for number in numbers]
            self.assertEqual(found, sorted(found))
            for number, turning in zip(numbers, found):
                self.assertEqual(loops_as_told(sheet, tear, turning), 1)
                self.assert_exactly(ring_number(sheet, tear, turning), number)
            seen.add(len(found[0]))
        self.assertGreater(max(seen), 14)

    def test_all_numbers_of_a_hole_with_many_crossings(self):
        sheet = (8, 6)
        tear = laid_over([part for part in squares(sheet) if part[0] // 6 % 2 == 0])
        found = [ring_at(sheet, tear, number) for number in range(rings(sheet, tear))]
        self.assertEqual(len(found), 56)
        self.assertEqual(found, sorted(set(found)))
        self.assertEqual({loops_as_told(sheet, tear, turning) for turning in found}, {1})

    def test_no_ring_with_this_number(self):
        for value in ODD_VALUES + (4, 5, 100, -1, -4, "0", (0,), 10 ** 40, (0, 0, 1, 0)):
            if type(value) is int and 0 <= value < 4:
                self.assert_exactly(ring_at(M, Q, value), WHOLE[value])
            else:
                with self.assertRaises(NoRing) as seen:
                    ring_at(M, Q, value)
                self.assertIs(seen.exception.value, value)
        for sheet, tear in even_holes(314, LARGE):
            for value in (-1, rings(sheet, tear), rings(sheet, tear) + 1, True, False):
                with self.assertRaises(NoRing) as seen:
                    ring_at(sheet, tear, value)
                self.assert_exactly(seen.exception.value, value)

    def test_no_number_for_what_is_no_whole_turning(self):
        others = (
            (False, False, True, False), (0, 0, True, 0), (0, False, 1, 0), [0, 0, 1, 0], (0, 0, 1), (0, 0, 1, 0, 0),
            "0010", ("0", "0", "1", "0"), (0, 0, 2, 0), (0, 0, -1, 0), (0, 0, 1, None), ((0, 0, 1, 0),), (0, 0, 1, ()),
            {0: 0, 1: 0, 2: 1, 3: 0}, 2, (), (0, 0, 10 ** 39, 0), ([0], 0, 1, 0), ({}, 0, 1, 0), (0, 0, 1, ""),
        )
        for value in ODD_VALUES + others:
            with self.assertRaises(NoRing) as seen:
                ring_number(M, Q, value)
            self.assertIs(seen.exception.value, value)
        for turning in all_turnings(M, Q):
            if turning not in WHOLE:
                with self.assertRaises(NoRing) as seen:
                    ring_number(M, Q, turning)
                self.assertIs(seen.exception.value, turning)

    def test_no_number_for_turnings_that_make_several_rings(self):
        found = 0
        for sheet, tear in even_holes(315, SHEETS + MIDDLE, most=6):
            for turning in all_turnings(sheet, tear)[::3]:
                if loops_as_told(sheet, tear, turning) > 1:
                    with self.assertRaises(NoRing) as seen:
                        ring_number(sheet, tear, turning)
                    self.assert_exactly(seen.exception.value, turning)
                    found += 1
        self.assertGreater(found, 100)

    def test_a_ring_without_crossings(self):
        for sheet in SHEETS:
            for square in squares(sheet):
                self.assert_exactly(crossings(sheet, square), ())
                self.assert_exactly(loops(sheet, square, ()), 1)
                self.assert_exactly(rings(sheet, square), 1)
                self.assert_exactly(ring_at(sheet, square, 0), ())
                self.assert_exactly(ring_number(sheet, square, ()), 0)
                with self.assertRaises(NoRing):
                    ring_at(sheet, square, 1)
                with self.assertRaises(NoRing):
                    ring_number(sheet, square, (0,))

    def test_two_whole_turnings_differ_at_an_even_number_of_crossings(self):
        for sheet, tear in even_holes(316, SHEETS + MIDDLE, most=6):
            found = [ring_at(sheet, tear, number) for number in range(rings(sheet, tear))]
            for turning in found:
                self.assertEqual((sum(turning) - sum(found[0])) % 2, 0)


class RingTest(ExactTest):
    def test_the_ring_of_each_whole_turning(self):
        for sheet, tear in even_holes(320, SHEETS[::2] + MIDDLE, most=6):
            for turning in whole_as_told(sheet, tear):
                twine = ring_of(sheet, tear, turning)
                self.assert_exactly(twine, ring_as_told(sheet, tear, turning))
                self.assert_exactly(plan_error(sheet, tear, (twine,)), None)
                self.assert_exactly(turning_of(sheet, tear, twine), turning)

    def test_rings_of_holes_with_more_crossings(self):
        dice = random.Random(321)
        for sheet, tear in even_holes(322, LARGE):
            turning = ring_at(sheet, tear, dice.randrange(rings(sheet, tear)))
            twine = ring_of(sheet, tear, turning)
            self.assert_exactly(twine, ring_as_told(sheet, tear, turning))
            self.assert_exactly(turning_of(sheet, tear, about(twine, dice)), turning)

    def test_rings_begun_anywhere(self):
        for sheet, tear in [(M, Q)] + list(even_holes(323, MIDDLE, most=4)):
            for turning in whole_as_told(sheet, tear):
                for knot in {knot for knot in ring_as_told(sheet, tear, turning)}:
                    for bar in at_as_told(sheet, tear, knot):
                        twine = ring_from(sheet, tear, turning, knot, bar)[0]
                        self.assertIsNone(plan_error(sheet, tear, (twine,)))
                        self.assert_exactly(turning_of(sheet, tear, twine), turning)

    def test_the_ring_that_a_plan_tells(self):
        # A hole without odd knots can be mended by one ring.
        for sheet, tear in even_holes(324, SHEETS + LARGE):
            self.assertEqual(fewest(sheet, tear), 1)
            twine = plan(sheet, tear)[0]
            self.assertEqual(twine[0], twine[-1])
            turning = turning_of(sheet, tear, twine)
            self.assertEqual(loops_as_told(sheet, tear, turning), 1)
            self.assertEqual(ring_at(sheet, tear, ring_number(sheet, tear, turning)), turning)

    def test_the_first_knot_by_the_first_bar(self):
        self.assert_exactly(ring_of(M, Q, (0, 1, 0, 0))[:2], ((0, 2), (1, 1)))
        self.assert_exactly(ring_of((3, 4), (1, 2, 5, 6), ()), ((0, 2), (1, 1), (2, 2), (1, 3), (0, 2)))
        self.assert_exactly(ring_of((4, 4), (4, 5, 8, 9), ()), ((1, 1), (2, 0), (3, 1), (2, 2), (1, 1)))


class RefusedTest(ExactTest):
    def test_not_one_hole(self):
        twine = ring_of(M, Q, WHOLE[0])
        for sheet, tear in samples(330):
            many = len(holes_as_told(sheet, tear))
            if many != 1:
                for call, given in calls((), twine):
                    with self.assertRaises(NotOne) as seen:
                        call(sheet, tear, *given)
                    self.assert_exactly(seen.exception.number, many)

    def test_not_even(self):
        twine = ring_of(M, Q, WHOLE[0])
        for sheet, tear in samples(331):
            amiss = odd_as_told(sheet, tear)
            if len(holes_as_told(sheet, tear)) == 1 and amiss:
                for call, given in calls((), twine):
                    with self.assertRaises(NotEven) as seen:
                        call(sheet, tear, *given)
                    self.assert_exactly(seen.exception.knot, amiss[0])

    def test_no_tear_is_no_hole(self):
        for sheet in SHEETS:
            for call, given in calls((), ((0, 0), (1, 1))):
                with self.assertRaises(NotOne) as seen:
                    call(sheet, (), *given)
                self.assert_exactly(seen.exception.number, 0)

    def test_two_rings_apart_are_two_holes(self):
        with self.assertRaises(NotOne) as seen:
            rings((4, 8), (1, 2, 9, 10, 5, 6, 13, 14))
        self.assert_exactly(seen.exception.number, 2)

    def test_the_arguments_stay_and_the_same_call_gets_the_same_answer(self):
        cases = []
        for sheet, tear in even_holes(332, LARGE):
            turning = ring_at(sheet, tear, rings(sheet, tear) - 1)
            before = repr((sheet, tear, turning))
            cases.append((sheet, tear, turning, self.answers(sheet, tear, turning)))
            self.assertEqual(repr((sheet, tear, turning)), before)
        for sheet, tear, turning, told in reversed(cases):
            self.assertEqual(self.answers(sheet, tear, turning), told)

    def answers(self, sheet, tear, turning):
        twine = ring_of(sheet, tear, turning)
        return repr((
            crossings(sheet, tear), loops(sheet, tear, turning), rings(sheet, tear), ring_at(sheet, tear, 0),
            ring_number(sheet, tear, turning), twine, turning_of(sheet, tear, twine),
        ))

    def test_arguments_by_name(self):
        self.assert_exactly(crossings(tear=Q, sheet=M), ((1, 3), (2, 2), (2, 4), (3, 3)))
        self.assert_exactly(loops(turning=(1, 0, 0, 1), tear=Q, sheet=M), 4)
        self.assert_exactly(rings(tear=Q, sheet=M), 4)
        self.assert_exactly(ring_at(value=1, tear=Q, sheet=M), WHOLE[1])
        self.assert_exactly(ring_number(value=WHOLE[2], tear=Q, sheet=M), 2)
        twine = ring_of(turning=WHOLE[1], tear=Q, sheet=M)
        self.assert_exactly(turning_of(twine=twine, tear=Q, sheet=M), WHOLE[1])

    def test_the_example_of_the_document(self):
        found = [
            crossings(M, Q), rings(M, Q), ring_at(M, Q, 0), ring_number(M, Q, (1, 1, 1, 0)),
            loops(M, Q, (1, 0, 0, 1)), loops(M, Q, (0, 1, 1, 0)),
        ]
        self.assert_exactly(found, [((1, 3), (2, 2), (2, 4), (3, 3)), 4, (0, 0, 1, 0), 3, 4, 2])
        twine = ring_of(M, Q, (0, 0, 1, 0))
        found = [twine[:5], len(twine), turning_of(M, Q, twine)]
        self.assert_exactly(found, [((0, 2), (1, 1), (2, 2), (1, 3), (2, 4)), 17, (0, 0, 1, 0)])


if __name__ == "__main__":
    unittest.main()
