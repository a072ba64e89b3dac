"""Points [2] and [3] of the document over the whole program."""

import unittest

from meshmend.edges import edge_error, even_edge, fall, is_even, round_of, takings
from meshmend.errors import BadExchange, BadPlan, BadText, NetError, NoBar, NoPaper, NoRing
from meshmend.exchanges import done, exchanges
from meshmend.lofts import Loft
from meshmend.plans import bars_along, fewest, plan, plan_error
from meshmend.rings import crossings, loops, ring_at, ring_number, ring_of, rings, turning_of
from meshmend.sheets import are_opposite, bar_between, bars_of, ends_of, knots, sheet_error
from meshmend.tears import holes, lacks, lost, odd, tear_error
from meshmend.texts import net_text, read_net
from meshmend.trimchecker import lets_trim
from meshmend.trimpapers import trim_paper
from meshmend.trims import easiest, least_trim, wrong
from tests.nets import LARGE, ODD_VALUES, ExactTest, knots_as_told, one_holes, samples
from tests.turns import even_holes

N = (4, 4)
X = (5, 6, 9, 10)
M = (4, 6)
Q = (1, 2, 3, 4, 7, 8, 9, 10, 13, 14, 15, 16, 19, 20, 21, 22)
P = (((1, 1), (2, 2), (1, 3)), ((3, 1), (2, 2), (3, 3)))
L = (((1, 1),), ((1, 3),), ((3, 1),), ((3, 3),))


def results():
    """A result of each function."""
    turning = ring_at(M, Q, 2)
    twine = ring_of(M, Q, turning)
    return [
        sheet_error(()), knots(N), ends_of(N, 3), bars_of(N, (1, 1)), bar_between(N, (1, 1), (2, 2)),
        are_opposite(N, 0, 5), tear_error(N, X), lacks(N, X, (2, 2)), odd(N, X), lost(N, X), holes(N, X),
        bars_along(N, P[0]), fewest(N, X), plan(N, X), plan_error(N, X, P[:1]), wrong(N, X, ((1, 1), (2, 2))),
        least_trim(N, X, ()), easiest(N, X), trim_paper(N, X, ()), trim_paper(N, X, ((1, 1), (2, 2))),
        lets_trim(N, X, (), ("least", (1, 2, 13, 14), L)), crossings(M, Q), loops(M, Q, (1, 0, 0, 1)), rings(M, Q),
        turning, ring_number(M, Q, turning), twine, turning_of(M, Q, twine), exchanges(M, Q, (0, 0, 1, 0), turning),
        done(M, Q, turning, ()), edge_error("NTx"), fall("NBT"), even_edge(7, 13), is_even("NBB"), round_of("NBNB"),
        takings(17, 5), net_text(N, X), read_net(net_text(N, X)),
    ]


def parts_of(value):
    yield value
    if type(value) is tuple:
        for item in value:
            yield from parts_of(item)


class WholeTest(ExactTest):
    def test_all_that_is_told_is_plain_at_every_depth(self):
        for value in results():
            for part in parts_of(value):
                self.assertIn(type(part), (int, bool, str, tuple, type(None)), value)

    def test_truths_are_true_or_false(self):
        for value in (are_opposite(N, 0, 5), is_even("N"), 5 in Loft(N, tear=X), Loft(N) == Loft(N), Loft(N) != 1):
            self.assertIs(type(value), bool)

    def test_the_same_calls_get_the_same_answers(self):
        self.assert_exactly(results(), results())

    def test_results_and_lofts_as_any_value(self):
        x = Loft(N, tear=X)
        values = results() + [x, (x,), [x], {"x": x}, (x, x), ((x, x),), ("never", x), ("least", x, x), ("never", (x,))]
        values += [("least", (x,), (x,)), ((1, x),), ((0, x),), (((1, 1), x),), (x, (), ())]
        for value in values:
            for call, given in (
                (sheet_error, ()), (tear_error, (N,)), (plan_error, (N, X)), (edge_error, ()),
            ):
                for part in parts_of(value):
                    found = call(*given, part)
                    self.assertIn(type(found), (int, str, tuple, type(None)))
            for call, given, error in (
                (lets_trim, (N, X, ()), NoPaper), (ring_at, (M, Q), NoRing), (ring_number, (M, Q), NoRing),
                (done, (M, Q, (0, 0, 1, 0)), BadExchange), (read_net, (), BadText),
            ):
                try:
                    call(*given, value)
                except error:
                    pass
            y = Loft(N, tear=X)
            for call in (y.rip, y.trim, y.mend, y.mend_all, y.unlisten):
                try:
                    call(value)
                    y.undo()
                except NetError as seen:
                    self.assertIs(type(seen).__mro__[1], NetError)
            self.assertIs(type(value in y), bool)
            self.assert_exactly(y == value, value is x)

    def test_results_may_be_passed_on(self):
        for sheet, tear in samples(800, LARGE[:2]):
            read = read_net(str(Loft(sheet, tear=tear)))
            x = Loft(read[0], tear=read[1])
            self.assert_exactly((holes(x.sheet, x.tear), x.fewest()), (holes(sheet, tear), fewest(sheet, tear)))
            self.assert_exactly(x.mend_all(plan(sheet, x.tear)), 0)
            self.assert_exactly(x.used, fewest(sheet, tear))

    def test_no_plan_has_fewer_twines_than_fewest_tells(self):
        for sheet, tear in samples(801, LARGE[:3]):
            found = plan(sheet, tear)
            self.assert_exactly(plan_error(sheet, tear, found), None)
            self.assert_exactly(len(found), fewest(sheet, tear))

    def test_a_trim_has_as_many_bars_as_its_paper_has_lots(self):
        for sheet, tear in one_holes(802, LARGE[:3]):
            if len(odd(sheet, tear)) <= 8:
                paper = trim_paper(sheet, tear, ())
                self.assert_exactly(lets_trim(sheet, tear, (), paper), paper[0])
                if paper[0] == "least":
                    self.assertEqual(len(least_trim(sheet, tear, ())), len(paper[2]))

    def test_from_a_torn_net_to_one_ring(self):
        # Trim the hole with the fewest bars; where it stays one hole, go round by each of some ways.
        ways = 0
        for sheet, tear in one_holes(803, LARGE):
            if len(odd(sheet, tear)) <= 8 and trim_paper(sheet, tear, ())[0] == "least":
                x = Loft(sheet, tear=tear)
                x.trim(least_trim(sheet, tear, ()))
                self.assert_exactly((x.odd(), x.fewest()), ((), len(x.holes())))
                for number in range(min(3, rings(sheet, x.tear)) if len(x.holes()) == 1 else 0):
                    twine = ring_of(sheet, x.tear, ring_at(sheet, x.tear, number))
                    self.assert_exactly((x.mend(twine), x.used, x.undo() > 0), (0, 1, True))
                    ways += 1
        self.assertGreater(ways, 20)

    def test_one_ring_mends_a_hole_without_odd_knots(self):
        for sheet, tear in even_holes(804, LARGE):
            found = plan(sheet, tear)
            self.assertEqual((len(found), found[0][0]), (1, found[0][-1]))
            turning = turning_of(sheet, tear, found[0])
            first = ring_at(sheet, tear, 0)
            self.assertEqual(len([at for at in range(len(first)) if first[at] != turning[at]]) % 2, 0)

    def test_changes_to_an_argument_change_no_other_answer(self):
        value = [1, 2]
        x = Loft(N, tear=X)
        for call, error, name in ((x.rip, NoBar, "bar"), (lambda it: ring_at(M, Q, it), NoRing, "value")):
            with self.assertRaises(error) as seen:
                call(value)
            self.assertIs(getattr(seen.exception, name), value)
        value.append(3)
        with self.assertRaises(BadPlan) as seen:
            x.mend_all(value)
        self.assert_exactly((seen.exception.number, seen.exception.word), (None, "plan"))
        self.assert_exactly((x.tear, x.used), (X, 0))
        found = list(x)
        found.append(0)
        self.assert_exactly((list(x), x.holes()), (list(X), (X,)))

    def test_truths_are_no_integers_in_any_value(self):
        for value in (True, False):
            self.assert_exactly(sheet_error((value, 1)), "deep")
            self.assert_exactly(tear_error(N, (value,)), 0)
            self.assert_exactly(plan_error(N, X, (((value, 1), (2, 2)),)), (0, "twine"))
            self.assertRaises(NoRing, ring_at, M, Q, value)
            self.assertRaises(NoRing, ring_number, M, Q, (value, 0, 1, 0))
            self.assertRaises(BadExchange, done, M, Q, (0, 0, 1, 0), ((value, 3),))
            self.assertRaises(NoPaper, lets_trim, N, X, (), ("never", ((value, 1),)))
            self.assertRaises(NoBar, Loft(N).rip, value)
            self.assert_exactly(value in Loft(N, tear=(0, 1)), False)

    def test_no_error_of_its_own_for_any_value(self):
        for value in ODD_VALUES:
            for found in (sheet_error(value), tear_error(N, value), plan_error(N, X, value), edge_error(value)):
                self.assertIn(type(found), (int, str, tuple, type(None)))

    def test_the_knots_of_all_that_is_told_are_knots(self):
        for sheet, tear in even_holes(805, LARGE[:2]):
            told = set(knots_as_told(sheet))
            turning = ring_at(sheet, tear, 0)
            self.assertTrue(set(crossings(sheet, tear)) | set(ring_of(sheet, tear, turning)) <= told)


if __name__ == "__main__":
    unittest.main()
