"""Point [6] of the document and point [3] (a), checked against its own words."""

import copy
import itertools
import random
import unittest

from meshmend.plans import bars_along, fewest, plan, plan_error
from meshmend.sheets import bars_of
from meshmend.tears import holes, lacks, odd
from tests.nets import (
    LARGE, ODD_VALUES, SHEETS, ExactTest, all_bars, all_tears, at_as_told, bar_as_told, ends_as_told,
    fewest_as_told, knots_as_told, laid_over, plan_error_as_told, samples, some_squares, squares,
    thinned, without,
)

N = (4, 4)
X = (5, 6, 9, 10)
P = (((1, 1), (2, 2), (1, 3)), ((3, 1), (2, 2), (3, 3)))

# The square round the place (1, 2), in the sheet (4, 4), as a ring.
SQUARE = (1, 2, 5, 6)
RING = ((0, 2), (1, 3), (2, 2), (1, 1), (0, 2))


def are_straight(sheet, knot, one, other):
    """Whether the far ends of the two bars lie on either side of the knot."""
    far = [sum(end[k] for bar in (one, other) for end in ends_as_told(sheet, bar)) for k in (0, 1)]
    return far == [4 * knot[0], 4 * knot[1]]


def ways_to_pass(sheet, tear, knot):
    """All sets of good passes at the knot that go over each bar once at most."""
    at = at_as_told(sheet, tear, knot)
    good = [
        (one, other) for one, other in itertools.combinations(at, 2)
        if len(at) == 2 or not are_straight(sheet, knot, one, other)
    ]
    found = [()] + [(pair,) for pair in good]
    found += [two for two in itertools.combinations(good, 2) if len(set(sum(two, ()))) == 4]
    return found


def many_pieces(tear, pairs):
    group = {bar: bar for bar in tear}
    for one, other in pairs:
        kept, given = group[one], group[other]
        group = {bar: kept if group[bar] == given else group[bar] for bar in group}
    return len(set(group.values()))


def least_pieces(sheet, tear):
    """Try all ways to pass all knots: no plan has fewer twines than this."""
    ways = [ways_to_pass(sheet, tear, knot) for knot in knots_as_told(sheet)]
    return min(many_pieces(tear, sum(choice, ())) for choice in itertools.product(*ways))


def turned_round(ring, at):
    """The same ring, begun at its knot with the number at."""
    return ring[at:] + ring[1:at + 1]


def beginnings(ring):
    """The ring begun at each knot and either way about."""
    for at in range(len(ring) - 1):
        yield turned_round(ring, at)
        yield turned_round(ring, at)[::-1]


def cut(twine, dice):
    """The twine, or two of which it is made."""
    if len(twine) < 3:
        return [twine]
    at = dice.randrange(1, len(twine) - 1)
    return [twine[:at + 1], twine[at:]]


def join_two(twines, dice):
    """Put one twine behind another, fitting or not."""
    if len(twines) < 2:
        return twines
    one, other = dice.sample(range(len(twines)), 2)
    rest = [twine for number, twine in enumerate(twines) if number not in (one, other)]
    return rest + [twines[one] + twines[other][1:]]


def bend_item(item, new, dice):
    """Put something else in the place of the item, at any depth of it."""
    if type(item) is not tuple or not item or dice.random() < 0.25:
        return dice.choice([new, [item], (item,), list(item) if type(item) is tuple else item])
    at = dice.randrange(len(item))
    return item[:at] + (bend_item(item[at], new, dice),) + item[at + 1:]


def changed(sheet, value, dice):
    """A plan in which one thing is otherwise than in the plan that is given."""
    twines, at = list(value), dice.randrange(max(1, len(value)))
    knot = dice.choice(knots_as_told(sheet))
    beyond = dice.choice([(-1, -1), (9, 9), (0, sheet[1] + 1), (sheet[0] + 1, 0), (0, 1), knot[::-1]])
    truth = (True, 1)
    way = dice.randrange(12)
    if way == 0:
        del twines[at:at + 1]
    elif way == 1:
        twines.insert(dice.randrange(len(twines) + 1), twines[at] if twines else (knot, knot))
    elif way == 2:
        twines = [twine[::-1] for twine in twines]
        dice.shuffle(twines)
    elif way == 3:
        twines = [piece for twine in twines for piece in cut(twine, dice)]
    elif way == 4:
        twines = join_two(twines, dice)
    elif way == 5:
        twines = [twine[:2] if number == at else twine for number, twine in enumerate(twines)]
    elif way == 6:
        twines.append((knot, (knot[0] + dice.choice([-1, 1]), knot[1] + dice.choice([-1, 1]))))
    elif twines and way == 7:
        spot = dice.randrange(len(twines[at]))
        twines[at] = twines[at][:spot] + (knot,) + twines[at][spot + 1:]
    elif twines and way == 8:
        spot = dice.randrange(len(twines[at]))
        twines[at] = twines[at][:spot] + (dice.choice([beyond, truth]),) + twines[at][spot + 1:]
    elif twines and way == 9:
        twines[at] = twines[at] + twines[at][-2:-1]
    elif twines and way == 10:
        twines[at] = twines[at][:1]
    else:
        return bend_item(value, dice.choice([None, truth, knot, beyond, 7, "", [], {}]), dice)
    return tuple(twines)


class BarsAlongTest(ExactTest):
    def test_twines_of_plans_also_turned_about(self):
        for sheet, tear in samples(70, SHEETS[::3]):
            for twine in plan(sheet, tear):
                expected = tuple([bar_as_told(sheet, *pair) for pair in zip(twine, twine[1:])])
                self.assert_exactly(bars_along(sheet, twine), expected)
                self.assert_exactly(bars_along(sheet, twine[::-1]), expected[::-1])

    def test_one_bar_alone(self):
        for sheet in SHEETS:
            for bar in all_bars(sheet):
                self.assert_exactly(bars_along(sheet, ends_as_told(sheet, bar)), (bar,))
                self.assert_exactly(bars_along(sheet, ends_as_told(sheet, bar)[::-1]), (bar,))

    def test_a_ring(self):
        self.assert_exactly(bars_along(N, RING), (2, 6, 5, 1))
        self.assert_exactly(bars_along(N, RING[::-1]), (1, 5, 6, 2))
        self.assert_exactly(bars_along(N, turned_round(RING, 1)), (6, 5, 1, 2))

    def test_a_twine_of_all_bars_of_a_narrow_sheet(self):
        self.assert_exactly(bars_along((3, 1), ((0, 0), (1, 1), (2, 0), (3, 1))), (0, 1, 2))
        self.assert_exactly(bars_along((1, 3), ((0, 0), (1, 1), (0, 2), (1, 3))), (0, 1, 2))


class FewestTest(ExactTest):
    def test_the_sum_over_the_holes(self):
        for sheet, tear in samples(71):
            before = tear[:]
            self.assert_exactly(fewest(sheet, tear), fewest_as_told(sheet, tear))
            self.assert_exactly(fewest(sheet, tear), fewest(sheet, tear))
            self.assert_exactly(tear, before)

    def test_no_plan_has_fewer_twines(self):
        for sheet in ((1, 1), (1, 4), (5, 1), (2, 2), (2, 3), (3, 2), (2, 4), (3, 3)):
            for tear in all_tears(sheet):
                self.assertEqual(least_pieces(sheet, tear), fewest(sheet, tear), (sheet, tear))

    def test_no_plan_of_larger_tears_has_fewer_twines(self):
        dice = random.Random(72)
        for sheet in ((3, 4), (4, 3), (2, 6), (4, 4)):
            for _ in range(25):
                tear = thinned(all_bars(sheet), dice, 0.7)[:10]
                self.assertEqual(least_pieces(sheet, tear), fewest(sheet, tear), (sheet, tear))

    def test_no_tear(self):
        for sheet in SHEETS:
            self.assert_exactly(fewest(sheet, ()), 0)

    def test_rings_and_single_bars(self):
        self.assert_exactly(fewest(N, SQUARE), 1)
        self.assert_exactly(fewest(N, (0,)), 1)
        self.assert_exactly(fewest(N, (0, 3, 12, 15)), 4)
        self.assert_exactly(fewest(N, X), 2)
        self.assert_exactly(fewest((8, 8), all_bars((8, 8))), 2)
        self.assert_exactly(fewest((7, 8), all_bars((7, 8))), 1)
        self.assert_exactly(fewest((4, 8), (1, 2, 9, 10, 5, 6, 13, 14)), 2)


class PlanTest(ExactTest):
    def assert_is_a_least_plan(self, sheet, tear):
        found = plan(sheet, tear)
        with self.subTest(sheet=sheet, tear=tear):
            self.assert_exactly(plan_error_as_told(sheet, tear, found), None)
            self.assert_exactly(plan_error(sheet, tear, found), None)
            self.assertEqual(len(found), fewest_as_told(sheet, tear))
            self.assert_exactly(plan(sheet, tear), found)

    def test_tears_of_all_kinds(self):
        for sheet, tear in samples(73):
            before = tear[:]
            self.assert_is_a_least_plan(sheet, tear)
            self.assert_exactly(tear, before)

    def test_all_tears_of_small_sheets(self):
        for sheet in ((1, 1), (1, 6), (5, 1), (2, 2), (2, 4), (3, 3), (2, 5)):
            for tear in all_tears(sheet):
                self.assert_is_a_least_plan(sheet, tear)

    def test_no_tear_has_the_plan_without_twines(self):
        for sheet in SHEETS:
            self.assert_exactly(plan(sheet, ()), ())

    def test_all_bars(self):
        for sheet in SHEETS:
            self.assert_is_a_least_plan(sheet, all_bars(sheet))

    def test_all_bars_but_a_few_of_large_sheets(self):
        dice = random.Random(74)
        for sheet in LARGE:
            for many in range(1, 12):
                bars = all_bars(sheet)
                self.assert_is_a_least_plan(sheet, without(bars, dice.sample(bars, many)))

    def test_squares_laid_over_one_another(self):
        dice = random.Random(75)
        for sheet in SHEETS + LARGE * 8:
            tear = some_squares(sheet, dice)
            self.assert_is_a_least_plan(sheet, tear)
            self.assertEqual(len(plan(sheet, tear)), len(holes(sheet, tear)))
            for twine in plan(sheet, tear):
                self.assertEqual(twine[0], twine[-1])

    def test_a_ring_of_a_cross_of_squares_turns_at_its_first_knot(self):
        # Four bars lack at (2, 2), where the two squares of this hole meet.
        tear = laid_over([squares(N)[0], squares(N)[-1]])
        self.assertEqual(len(holes(N, tear)), 1)
        self.assert_is_a_least_plan(N, tear)

    def test_knots_with_two_opposite_bars_are_gone_through(self):
        self.assertEqual(len(plan((3, 3), (0, 4, 8))), 1)
        self.assertEqual(sorted(plan((3, 3), (0, 4, 8))[0]), [(0, 0), (1, 1), (2, 2), (3, 3)])


class PlanErrorTest(ExactTest):
    def assert_as_told(self, sheet, tear, value):
        expected = plan_error_as_told(sheet, tear, value)
        with self.subTest(sheet=sheet, tear=tear, value=value):
            self.assert_exactly(plan_error(sheet, tear, value), expected)

    def test_what_is_no_tuple(self):
        for value in (None, True, 0, "", "plan", [], [P[0]], list(P), {}, {0: P[0]}):
            for tear in ((), X):
                self.assert_exactly(plan_error(N, tear, value), (None, "plan"))

    def test_no_twines(self):
        self.assert_exactly(plan_error(N, (), ()), None)
        self.assert_exactly(plan_error(N, X, ()), (None, "lacking"))

    def test_what_is_no_twine(self):
        wrong = (
            None, True, 0, "", (), ((1, 1),), [(1, 1), (2, 2)], {}, ((1, 1), [2, 2]), ((1, 1), (2, True)),
            ((True, True), (2, 2)), ((1, 1), (1, 2)), ((1, 1), (2, 2, 2)), ((1, 1), (2,)), ((1, 1), 2),
            ((1, 1), None), ((4, 4), (5, 5)), ((0, 0), (-1, -1)), ((1, 1), (2, "2")), (1, 1), ((1, 1), (2, (2,))),
            ((1, 1), (2, 2), (3, 5)), ((1, 1), (2, 2), (5, 3)), ((1, 1), (2, 2), ()),
        )
        for item in wrong:
            with self.subTest(item=item):
                self.assert_exactly(plan_error(N, X, (item,)), (0, "twine"))
                self.assert_exactly(plan_error(N, X, (P[0], item)), (1, "twine"))
                self.assert_exactly(plan_error(N, X, P + (item,)), (2, "twine"))

    def test_the_first_wrong_item_is_told(self):
        straight, broken = ((1, 1), (2, 2), (3, 3)), ((1, 1), (1, 3))
        self.assert_exactly(plan_error(N, X, (P[0], broken, None)), (1, "bar"))
        self.assert_exactly(plan_error(N, X, (P[0], None, broken)), (1, "twine"))
        self.assert_exactly(plan_error(N, X, (straight, broken)), (0, "straight"))
        self.assert_exactly(plan_error(N, X, (P[0], P[0], straight)), (1, "twice"))

    def test_the_words_are_asked_of_the_whole_item(self):
        # The last knot decides, though there are other faults ahead of it.
        self.assert_exactly(plan_error(N, X, (((1, 1), (1, 3), (1, 2)),)), (0, "twine"))
        self.assert_exactly(plan_error(N, X, (((1, 1), (2, 2), (1, 1), (0, 0)),)), (0, "bar"))
        self.assert_exactly(plan_error(N, X, (((1, 1), (2, 2), (3, 3), (2, 2)),)), (0, "twice"))
        self.assert_exactly(plan_error(N, X, (((1, 1), (2, 2), (3, 3), (4, 4)),)), (0, "bar"))
        self.assert_exactly(plan_error(N, X, (P[0], ((3, 3), (2, 2), (1, 1)))), (1, "twice"))

    def test_neighbors_without_a_bar_that_lacks(self):
        for item in (((0, 0), (1, 1)), ((1, 1), (1, 1)), ((1, 1), (3, 3)), ((1, 1), (1, 3)), ((0, 0), (4, 4))):
            self.assert_exactly(plan_error(N, X, (item,)), (0, "bar"))
            self.assert_exactly(plan_error(N, (), (item,)), (0, "bar"))

    def test_over_a_bar_twice(self):
        self.assert_exactly(plan_error(N, X, (((1, 1), (2, 2), (1, 1)),)), (0, "twice"))
        self.assert_exactly(plan_error(N, X, P + (P[0][:2],)), (2, "twice"))
        self.assert_exactly(plan_error(N, X, (P[0], P[0][::-1])), (1, "twice"))
        self.assert_exactly(plan_error(N, SQUARE, (RING + RING[1:],)), (0, "twice"))

    def test_straight_on_just_where_more_bars_lack(self):
        straight = (((1, 1), (2, 2), (3, 3)),)
        self.assert_exactly(plan_error(N, (5, 10), straight), None)
        self.assert_exactly(plan_error(N, (5, 6, 10), straight), (0, "straight"))
        self.assert_exactly(plan_error(N, X, straight), (0, "straight"))
        # The other twine goes over the third bar already, yet it lacks.
        value = (((1, 3), (2, 2)),) + straight
        self.assert_exactly(plan_error(N, (5, 6, 10), value), (1, "straight"))
        for knot in knots_as_told((4, 6)):
            for one, other in itertools.combinations(bars_of((4, 6), knot), 2):
                ends = [end for bar in (one, other) for end in ends_as_told((4, 6), bar) if end != knot]
                twine = (ends[0], knot, ends[1])
                for tear in (bars_of((4, 6), knot), (one, other)):
                    self.assert_as_told((4, 6), tear, (twine,))

    def test_a_ring_is_judged_at_its_first_knot(self):
        # The bars round (1, 2) and round (1, 4) meet at (1, 3). The twine goes
        # round both, straight on at (1, 3) each time.
        sheet, tear = (2, 6), (1, 2, 3, 4, 7, 8, 9, 10)
        ring = ((1, 3), (0, 2), (1, 1), (2, 2), (1, 3), (0, 4), (1, 5), (2, 4), (1, 3))
        self.assert_exactly(bars_along(sheet, ring), (2, 1, 7, 8, 3, 4, 10, 9))
        for value in beginnings(ring):
            self.assert_exactly(plan_error(sheet, tear, (value,)), (0, "straight"))
        # Left as an open twine it would not pass the knot at which it ends.
        self.assert_exactly(plan_error(sheet, tear, (ring[:5], ring[4:])), None)

    def test_a_ring_that_is_bad_at_its_first_knot_alone(self):
        # A piece of a twine between two passes of one knot: amid it all is
        # right, and begun at any other knot it is judged the same.
        found = set()
        for sheet, tear in samples(76, [(3, 3), (4, 4), (4, 6), (6, 6)], 6):
            for twine in plan(sheet, tear):
                for at, far in itertools.combinations(range(len(twine)), 2):
                    if twine[at] == twine[far]:
                        words = set()
                        for value in beginnings(twine[at:far + 1]):
                            self.assert_as_told(sheet, tear, (value,))
                            words.add(plan_error(sheet, tear, (value,)))
                        self.assertEqual(len(words), 1)
                        found |= words
        self.assertEqual(found, {(0, "straight"), (None, "lacking"), None})

    def test_rings_begun_at_each_knot_and_either_way_about(self):
        for sheet, tear in samples(77, SHEETS[::4] + LARGE):
            for twine in plan(sheet, tear):
                if twine[0] == twine[-1]:
                    hole = tuple(sorted(bars_along(sheet, twine)))
                    for value in beginnings(twine):
                        self.assert_exactly(plan_error(sheet, hole, (value,)), None)

    def test_lacking_if_no_item_is_wrong(self):
        self.assert_exactly(plan_error(N, X, P[:1]), (None, "lacking"))
        self.assert_exactly(plan_error(N, SQUARE, (RING[:4],)), (None, "lacking"))
        self.assert_exactly(plan_error(N, SQUARE + (15,), (RING,)), (None, "lacking"))

    def test_odd_values(self):
        for value in ODD_VALUES:
            for sheet, tear in ((N, X), (N, ()), (N, SQUARE), ((8, 8), all_bars((8, 8)))):
                self.assert_as_told(sheet, tear, value)
                self.assert_as_told(sheet, tear, (value,))
                self.assert_as_told(sheet, tear, (value, value))
                self.assert_as_told(sheet, tear, plan(sheet, tear) + (value,))

    def test_plans_that_are_otherwise(self):
        dice = random.Random(78)
        words = set()
        for sheet, tear in samples(79, SHEETS, 5):
            value = plan(sheet, tear)
            for _ in range(dice.choice([1, 1, 1, 2, 3])):
                if type(value) is tuple and all([type(item) is tuple and item for item in value]):
                    value = changed(sheet, value, dice)
            self.assert_as_told(sheet, tear, value)
            words.add((plan_error(sheet, tear, value) or (None, None))[1])
        self.assertEqual(words, {None, "plan", "twine", "bar", "twice", "straight", "lacking"})

    def test_plans_bent_at_any_depth(self):
        dice = random.Random(80)
        for sheet, tear in samples(81, SHEETS, 3):
            new = dice.choice(ODD_VALUES)
            self.assert_as_told(sheet, tear, bend_item(plan(sheet, tear), new, dice))

    def test_the_value_stays_as_it_was(self):
        for value in ODD_VALUES + (P, (P[0], [1, [2]]), [[(1, 1)]], (((1, 1), [2, 2]),)):
            before = copy.deepcopy(value)
            plan_error(N, X, value)
            self.assert_exactly(value, before)


class TogetherTest(ExactTest):
    def test_fewest_is_the_sum_over_the_holes(self):
        for sheet, tear in samples(82):
            parts = [fewest(sheet, hole) for hole in holes(sheet, tear)]
            self.assert_exactly(fewest(sheet, tear), sum(parts))
            self.assertGreaterEqual(2 * fewest(sheet, tear), len(odd(sheet, tear)))
            self.assertTrue(all(part > 0 for part in parts))

    def test_plans_of_the_holes_put_together(self):
        for sheet, tear in samples(83):
            value = sum([plan(sheet, hole) for hole in holes(sheet, tear)], ())
            self.assert_exactly(plan_error(sheet, tear, value), None)
            self.assertEqual(len(value), fewest(sheet, tear))

    def test_plans_turned_about_and_put_otherwise_stay_plans(self):
        dice = random.Random(84)
        for sheet, tear in samples(85):
            twines = list(plan(sheet, tear))
            self.assert_exactly(plan_error(sheet, tear, tuple([twine[::-1] for twine in twines])), None)
            dice.shuffle(twines)
            self.assert_exactly(plan_error(sheet, tear, tuple(twines)), None)

    def test_plans_cut_at_any_knot_stay_plans(self):
        for sheet, tear in samples(86, SHEETS[::3]):
            for twine in plan(sheet, tear):
                rest = tuple([other for other in plan(sheet, tear) if other != twine])
                for at in range(1, len(twine) - 1):
                    # A piece that ends where it begins is a ring, which has
                    # one pass more.
                    pieces = (twine[:at + 1], twine[at:])
                    if all(piece[0] != piece[-1] for piece in pieces):
                        self.assert_exactly(plan_error(sheet, tear, rest + pieces), None)
                    else:
                        expected = plan_error_as_told(sheet, tear, rest + pieces)
                        self.assert_exactly(plan_error(sheet, tear, rest + pieces), expected)

    def test_single_bars_are_a_plan(self):
        for sheet, tear in samples(87):
            value = tuple([ends_as_told(sheet, bar) for bar in tear])
            self.assert_exactly(plan_error(sheet, tear, value), None)
            self.assert_exactly(plan_error(sheet, tear, value[::-1]), None)

    def test_with_a_twine_less_a_bar_is_lacking(self):
        for sheet, tear in samples(88):
            value = plan(sheet, tear)
            for at in range(len(value)):
                less = value[:at] + value[at + 1:]
                self.assert_exactly(plan_error(sheet, tear, less), (None, "lacking"))

    def test_each_bar_is_gone_over_once(self):
        for sheet, tear in samples(89):
            along = sum([bars_along(sheet, twine) for twine in plan(sheet, tear)], ())
            self.assert_exactly(tuple(sorted(along)), tear)

    def test_twines_of_a_least_plan_end_at_odd_knots(self):
        for sheet, tear in samples(90):
            ends = [end for twine in plan(sheet, tear) if twine[0] != twine[-1] for end in (twine[0], twine[-1])]
            self.assert_exactly(tuple(sorted(ends)), odd(sheet, tear))

    def test_no_pass_goes_straight_where_more_bars_lack(self):
        for sheet, tear in samples(91):
            for twine in plan(sheet, tear):
                for one, knot, other in zip(twine, twine[1:], twine[2:]):
                    if lacks(sheet, tear, knot) > 2:
                        self.assertNotEqual((one[0] + other[0], one[1] + other[1]), (2 * knot[0], 2 * knot[1]))

    def test_the_same_call_gets_the_same_answer(self):
        calls = (
            (bars_along, (N, RING)), (fewest, (N, X)), (plan, (N, X)), (plan, ((8, 8), all_bars((8, 8)))),
            (plan_error, (N, X, P[:1])),
        )
        first = [repr(call(*given)) for call, given in calls]
        for sheet, tear in samples(92, LARGE):
            plan(sheet, tear)
        self.assertEqual([repr(call(*given)) for call, given in calls], first)

    def test_arguments_by_name(self):
        self.assert_exactly(bars_along(twine=RING, sheet=N), (2, 6, 5, 1))
        self.assert_exactly(fewest(tear=X, sheet=N), 2)
        self.assert_exactly(plan(tear=X, sheet=N), plan(N, X))
        self.assert_exactly(plan_error(value=P[:1], tear=X, sheet=N), (None, "lacking"))

    def test_the_example_of_the_document(self):
        found = [
            fewest(N, X), plan_error(N, X, P), bars_along(N, P[0]),
            plan_error(N, X, (((1, 1), (2, 2), (3, 3)),)), plan_error(N, X, P[:1]),
        ]
        self.assert_exactly(found, [2, None, (5, 6), (0, "straight"), (None, "lacking")])


if __name__ == "__main__":
    unittest.main()
