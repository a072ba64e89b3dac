"""The module exchanges of point [9] of the document, checked against its own words."""

import itertools
import random
import unittest

from meshmend.errors import BadExchange, NotEven, NotOne
from meshmend.exchanges import done, exchanges
from meshmend.rings import ring_at, rings
from tests.nets import LARGE, ODD_VALUES, SHEETS, ExactTest, holes_as_told, odd_as_told, samples
from tests.turns import crossings_as_told, even_holes, loops_as_told, whole_as_told

M = (4, 6)
Q = (1, 2, 3, 4, 7, 8, 9, 10, 13, 14, 15, 16, 19, 20, 21, 22)
WHOLE = ((0, 0, 1, 0), (0, 1, 0, 0), (0, 1, 1, 1), (1, 1, 1, 0))
MIDDLE = [(4, 6), (5, 5), (6, 4), (5, 7), (7, 4), (3, 8), (6, 6)]

NO_EXCHANGES = (
    (0, 0), (1, 0), (0, 4), (-1, 1), (0, 1, 2), (0,), (), [0, 1], "01", ("0", "1"), (False, 1), (0, True),
    (None, 1), (0, None), 1, None, True, ((0, 1),), ((0,), 1), (0, [1]), {0: 1}, (3, 10 ** 39), (-2, -1), (0, -1),
)


def flipped(turning, pair):
    return tuple([1 - turn if at in pair else turn for at, turn in enumerate(turning)])


def done_as_told(sheet, tear, turning, value):
    """The turning to which the exchanges lead, or the number that is raised."""
    if type(value) is not tuple:
        return -1
    for number, item in enumerate(value):
        if type(item) is not tuple or [type(part) for part in item] != [int, int]:
            return number
        if not 0 <= item[0] < item[1] < len(turning):
            return number
        turning = flipped(turning, item)
        if loops_as_told(sheet, tear, turning) != 1:
            return number
    return turning


def unlike(one, other):
    return [at for at in range(len(one)) if one[at] != other[at]]


def random_whole(sheet, tear, dice):
    return ring_at(sheet, tear, dice.randrange(rings(sheet, tear)))


class ExchangesTest(ExactTest):
    def assert_done(self, sheet, tear, turning, value):
        expected = done_as_told(sheet, tear, turning, value)
        if type(expected) is tuple:
            self.assert_exactly(done(sheet, tear, turning, value), expected)
        else:
            with self.assertRaises(BadExchange) as seen:
                done(sheet, tear, turning, value)
            self.assert_exactly(seen.exception.number, expected)
        return expected

    def assert_leads(self, sheet, tear, one, other):
        found = exchanges(sheet, tear, one, other)
        self.assert_exactly(done_as_told(sheet, tear, one, found), other)
        self.assert_exactly(done(sheet, tear, one, found), other)
        self.assertEqual(len(found) * 2, len(unlike(one, other)))
        return found

    def test_from_each_whole_turning_to_each_other_one(self):
        seen = set()
        for sheet, tear in even_holes(400, SHEETS[::2] + MIDDLE, most=6):
            found = whole_as_told(sheet, tear)
            for one, other in itertools.product(found[:12], found[-12:]):
                seen.add(len(self.assert_leads(sheet, tear, one, other)))
        self.assertTrue({0, 1, 2} <= seen)

    def test_holes_with_more_crossings(self):
        dice, seen = random.Random(401), set()
        for sheet, tear in even_holes(402, LARGE, 2):
            one, other = random_whole(sheet, tear, dice), random_whole(sheet, tear, dice)
            seen.add(len(self.assert_leads(sheet, tear, one, other)))
            last = ring_at(sheet, tear, rings(sheet, tear) - 1)
            seen.add(len(self.assert_leads(sheet, tear, ring_at(sheet, tear, 0), last)))
        self.assertGreaterEqual(max(seen), 5)

    def test_no_crossing_stands_in_them_twice(self):
        for one, other in itertools.product(WHOLE, WHOLE):
            numbers = [number for pair in exchanges(M, Q, one, other) for number in pair]
            self.assertEqual(sorted(numbers), unlike(one, other))

    def test_no_exchanges_lead_nowhere_else(self):
        for sheet, tear in even_holes(403, SHEETS[::3] + LARGE):
            turning = ring_at(sheet, tear, 0)
            self.assert_exactly(exchanges(sheet, tear, turning, turning), ())
            self.assert_exactly(done(sheet, tear, turning, ()), turning)

    def test_done_with_all_single_exchanges(self):
        seen = set()
        for sheet, tear in even_holes(404, SHEETS[::2] + MIDDLE, most=6):
            many = len(crossings_as_told(sheet, tear))
            for turning in whole_as_told(sheet, tear)[:6]:
                for pair in itertools.product(range(-1, many + 1), repeat=2):
                    seen.add(type(self.assert_done(sheet, tear, turning, (pair,))))
        self.assertEqual(seen, {int, tuple})

    def test_done_with_several_exchanges(self):
        dice, seen = random.Random(405), {}
        for sheet, tear in even_holes(406, MIDDLE + LARGE, 2):
            many = len(crossings_as_told(sheet, tear))
            turning = random_whole(sheet, tear, dice)
            if many > 1:
                pairs = list(itertools.combinations(range(many), 2))
                for _ in range(3):
                    value = tuple([dice.choice(pairs) for _ in range(dice.randrange(1, 4))])
                    told = self.assert_done(sheet, tear, turning, value)
                    seen[told if type(told) is int else None] = seen.get(told, 0) + 1
                # There and back any number of times, then something else.
                other = random_whole(sheet, tear, dice)
                there = exchanges(sheet, tear, turning, other)
                round_trip = there + there[::-1]
                self.assert_exactly(self.assert_done(sheet, tear, turning, round_trip * 2), turning)
                value = round_trip + (dice.choice(pairs), dice.choice(pairs))
                self.assert_done(sheet, tear, turning, value)
        self.assertTrue({None, 0, 1} <= set(seen))

    def test_an_exchange_done_twice(self):
        self.assert_exactly(done(M, Q, WHOLE[0], ((0, 1), (0, 1))), WHOLE[0])
        self.assert_exactly(done(M, Q, WHOLE[0], ((0, 1), (0, 1), (0, 1))), WHOLE[3])

    def test_no_exchange_at_each_place(self):
        right = ((0, 1), (0, 3), (0, 3))
        self.assert_exactly(done(M, Q, WHOLE[0], right), WHOLE[3])
        for item in NO_EXCHANGES + ODD_VALUES:
            if done_as_told(M, Q, WHOLE[0], (item,)) == 0:
                for number in range(4):
                    value = right[:number] + (item,) + right[number:]
                    with self.assertRaises(BadExchange) as seen:
                        done(M, Q, WHOLE[0], value)
                    self.assert_exactly(seen.exception.number, number)
        for item in NO_EXCHANGES:
            self.assert_exactly(done_as_told(M, Q, WHOLE[0], (item,)), 0)

    def test_the_first_wrong_item_is_told(self):
        # Behind (0, 2) the turning makes more than one ring.
        for value, number in (
            (((0, 1), None, (1, 0)), 1), (((0, 1), (1, 0), None), 1), ((None, (0, 1)), 0),
            (((0, 1), (0, 1), (4, 5)), 2), (((0, 2), None), 0), (((0, 2), (0, 2)), 0),
            (((0, 1), (0, 1), (0, 2), (0, 2)), 2),
        ):
            self.assert_exactly(self.assert_done(M, Q, WHOLE[0], value), number)

    def test_any_value(self):
        for value in ODD_VALUES:
            self.assert_done(M, Q, WHOLE[1], value)
            self.assert_done(M, Q, WHOLE[1], (value,))
            self.assert_done(M, Q, WHOLE[1], ((value, value),))
            self.assert_done(M, Q, WHOLE[1], ((0, value),))
            self.assert_done(M, Q, WHOLE[1], [value])

    def test_a_hole_without_crossings_has_no_exchanges(self):
        self.assert_exactly(done((3, 4), (1, 2, 5, 6), (), ()), ())
        self.assert_exactly(exchanges((3, 4), (1, 2, 5, 6), (), ()), ())
        for value in (((0, 1),), ((),), (0,)):
            self.assert_exactly(self.assert_done((3, 4), (1, 2, 5, 6), (), value), 0)

    def test_not_one_hole_and_not_even_ahead_of_all_else(self):
        for sheet, tear in samples(407):
            many, amiss = len(holes_as_told(sheet, tear)), odd_as_told(sheet, tear)
            for call, given in ((done, ((), None)), (done, ((), ())), (exchanges, ((), ()))):
                if many != 1:
                    with self.assertRaises(NotOne) as seen:
                        call(sheet, tear, *given)
                    self.assert_exactly(seen.exception.number, many)
                elif amiss:
                    with self.assertRaises(NotEven) as seen:
                        call(sheet, tear, *given)
                    self.assert_exactly(seen.exception.knot, amiss[0])

    def test_the_arguments_stay_and_the_same_call_gets_the_same_answer(self):
        value = ((0, 1), [0, 3], {"a": [1]})
        before = repr(value)
        for _ in range(2):
            self.assert_exactly(self.assert_done(M, Q, WHOLE[0], value), 1)
            self.assert_exactly(exchanges(M, Q, WHOLE[0], WHOLE[2]), exchanges(M, Q, WHOLE[0], WHOLE[2]))
        self.assertEqual(repr(value), before)

    def test_arguments_by_name(self):
        self.assert_exactly(done(value=((0, 1),), turning=WHOLE[0], tear=Q, sheet=M), WHOLE[3])
        self.assert_exactly(exchanges(other=WHOLE[3], one=WHOLE[0], tear=Q, sheet=M), ((0, 1),))

    def test_the_example_of_the_document(self):
        found = [
            exchanges(M, Q, (0, 0, 1, 0), (1, 1, 1, 0)), done(M, Q, (0, 0, 1, 0), ((0, 1), (0, 3))),
            exchanges(M, Q, (0, 1, 0, 0), (0, 1, 0, 0)),
        ]
        self.assert_exactly(found, [((0, 1),), (0, 1, 1, 1), ()])


if __name__ == "__main__":
    unittest.main()
