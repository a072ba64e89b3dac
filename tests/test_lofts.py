"""The module lofts of point [11] and point [3] (d), checked against the document's own words."""

import random
import unittest

from meshmend.errors import (
    BadBars, BadPlan, BadSheet, BadTear, BadTwine, Full, NetError, NoBar, NoListener, NothingDone, NothingUndone,
)
from meshmend.lofts import Loft
from meshmend.plans import plan
from meshmend.tears import tear_error
from meshmend.trims import least_trim
from meshmend.texts import net_text, read_net
from tests.nets import (
    LARGE, ODD_VALUES, SHEETS, ExactTest, all_bars, bar_as_told, fewest_as_told, holes_as_told, knots_as_told,
    odd_as_told, plain_tears, plan_error_as_told, samples,
)
from tests.papers import first_no_whole_bar
from tests.test_texts import text_as_told

N = (4, 4)
X = (5, 6, 9, 10)
P = (((1, 1), (2, 2), (1, 3)), ((3, 1), (2, 2), (3, 3)))


class Told:
    """A loft as the document tells it: what it began with, and the deeds that stand or are taken back."""

    def __init__(self, sheet, tear):
        self.sheet, self.first, self.deeds, self.taken_back = sheet, tear, [], []

    def now(self):
        """The tear and how many twines are used: all deeds done on the first tear."""
        bars, used = set(self.first), 0
        for word, value in self.deeds:
            if word == "rip":
                bars.add(value)
            elif word == "trim":
                bars.update(value)
            elif word == "mend":
                bars -= {bar_as_told(self.sheet, one, other) for one, other in zip(value, value[1:])}
                used += 1
            else:
                bars, used = set(), used + len(value)
        return tuple(sorted(bars)), used

    def error(self, word, value):
        """The error and its fields that the deed raises; None if it is done."""
        tear = self.now()[0]
        if len(self.deeds) == 30:
            return (Full, {})
        if word == "rip" and (type(value) is not int or value not in all_bars(self.sheet) or value in tear):
            return (NoBar, {"bar": value})
        if word == "trim":
            number = -1 if type(value) is not tuple else first_no_whole_bar(self.sheet, tear, value)
            return None if number is None else (BadBars, {"number": number})
        if word == "mend":
            told = plan_error_as_told(self.sheet, tear, (value,))
            return None if told in (None, (None, "lacking")) else (BadTwine, {"word": told[1]})
        if word == "mend_all":
            told = plan_error_as_told(self.sheet, tear, value)
            return None if told is None else (BadPlan, {"number": told[0], "word": told[1]})
        return None

    def do(self, word, value):
        self.deeds.append((word, value))
        self.taken_back = []

    def undo(self):
        self.taken_back.append(self.deeds.pop())

    def redo(self):
        self.deeds.append(self.taken_back.pop())


def some_bars(sheet, dice, most):
    return tuple(sorted(dice.sample(all_bars(sheet), min(len(all_bars(sheet)), dice.randrange(most + 1)))))


def pieces(sheet, tear, dice):
    """A piece of a twine of a plan for the tear, or a way over knots that may not fit."""
    twines = plan(sheet, tear)
    if not twines or dice.random() < 0.2:
        knot = dice.choice(knots_as_told(sheet))
        return (knot, (knot[0] + dice.choice([-1, 1]), knot[1] + dice.choice([-1, 1])))
    twine = dice.choice(twines)
    start = dice.randrange(len(twine) - 1)
    return twine[start:start + dice.randrange(2, len(twine) + 1)]


def some_deed(sheet, tear, dice):
    """A deed with a value that often fits."""
    word = dice.choice(["rip", "trim", "mend", "mend", "mend_all"])
    if dice.random() < 0.15:
        return word, dice.choice(ODD_VALUES)
    whole = [bar for bar in all_bars(sheet) if bar not in tear]
    if word == "rip":
        return word, dice.choice(whole if whole and dice.random() < 0.8 else all_bars(sheet))
    if word == "trim":
        bars = some_bars(sheet, dice, 6)
        return word, tuple([bar for bar in bars if bar not in tear]) if dice.random() < 0.8 else bars
    if word == "mend":
        return word, pieces(sheet, tear, dice)
    twines = plan(sheet, tear)
    return word, twines if dice.random() < 0.5 else twines[1:]


class LoftTest(ExactTest):
    def assert_shows(self, x, sheet, tear, used):
        self.assert_exactly((x.sheet, x.tear, x.used), (sheet, tear, used))
        self.assert_exactly((len(x), list(x)), (len(tear), list(tear)))
        self.assert_exactly(str(x), text_as_told(sheet, tear))
        self.assert_exactly(x.holes(), holes_as_told(sheet, tear))
        self.assert_exactly(x.odd(), odd_as_told(sheet, tear))
        self.assert_exactly(x.fewest(), fewest_as_told(sheet, tear))
        for bar in range(-1, sheet[0] * sheet[1] + 2):
            self.assert_exactly(bar in x, bar in tear)

    def assert_raises(self, error, fields, call, *given):
        with self.assertRaises(NetError) as seen:
            call(*given)
        self.assertIs(type(seen.exception), error)
        for name, value in fields.items():
            self.assert_exactly(getattr(seen.exception, name), value)
        return seen.exception


class MadeTest(LoftTest):
    def test_a_new_loft(self):
        for sheet, tear in samples(700):
            self.assert_shows(Loft(sheet, tear=tear), sheet, tear, 0)
        for sheet in SHEETS:
            self.assert_shows(Loft(sheet), sheet, (), 0)
            self.assertIs(bool(len(Loft(sheet))), False)

    def test_no_sheet(self):
        for value, word in (
            (None, "sheet"), ([4, 4], "sheet"), ((4,), "sheet"), ((4, 4, 4), "sheet"), ("44", "sheet"), ((), "sheet"),
            ((0, 9), "deep"), ((9, 4), "deep"), ((True, 4), "deep"), (("4", None), "deep"), ((4, 0), "wide"),
            ((4, 9), "wide"), ((4, True), "wide"), ((4, -1), "wide"), ((8, 10 ** 39), "wide"),
        ):
            self.assert_raises(BadSheet, {"word": word}, Loft, value)
            with self.assertRaises(BadSheet) as seen:
                Loft(value, tear=None)
            self.assert_exactly(seen.exception.word, word)
        for value in ODD_VALUES:
            if type(value) is tuple and len(value) == 2:
                self.assertRaises((BadSheet, BadTear), Loft, value, tear=None)
            else:
                self.assert_raises(BadSheet, {"word": "sheet"}, Loft, value)

    def test_no_tear(self):
        for value, number in (
            (None, -1), ([], -1), ([5], -1), ("", -1), ({}, -1), ((16,), 0), ((-1,), 0), ((5, 5), 1), ((6, 5), 1),
            ((5, 6, True), 2), ((True,), 0), ((False, 1), 0), ((0, 1, None), 2), ((0, (1,)), 1), (5, -1), (Loft(N), -1),
        ):
            with self.assertRaises(BadTear) as seen:
                Loft(N, tear=value)
            self.assert_exactly(seen.exception.number, number)
        for value in ODD_VALUES:
            number = tear_error(N, value)
            if number is None:
                self.assert_exactly(Loft(N, tear=value).tear, value)
            else:
                with self.assertRaises(BadTear) as seen:
                    Loft(N, tear=value)
                self.assert_exactly(seen.exception.number, number)

    def test_the_tear_is_passed_by_name_alone(self):
        self.assertRaises(TypeError, Loft, N, X)
        self.assert_exactly(Loft(sheet=N, tear=X).tear, X)

    def test_properties_are_only_read(self):
        x = Loft(N, tear=X)
        for name, value in (("sheet", (2, 2)), ("tear", ()), ("used", 3)):
            with self.assertRaises(AttributeError):
                setattr(x, name, value)
            with self.assertRaises(AttributeError):
                delattr(x, name)
        self.assert_shows(x, N, X, 0)

    def test_any_value_in_a_loft(self):
        x = Loft((2, 2), tear=(0, 1, 2))
        for value in ODD_VALUES + (x, Loft((2, 2)), [x], (x,)):
            self.assert_exactly(value in x, type(value) is int and value in (0, 1, 2))
        for value in (True, False, "0", (0,), [0], None, 3, 4, -1):
            self.assert_exactly(value in x, False)
            self.assert_exactly(value not in x, True)

    def test_going_through_the_bars(self):
        x = Loft(N, tear=X)
        self.assertEqual([bar for bar in x], [5, 6, 9, 10])
        self.assertEqual([(one, other) for one in x for other in x][:5], [(5, 5), (5, 6), (5, 9), (5, 10), (6, 5)])
        self.assertEqual((tuple(x), sum(x), max(x), sorted(x, reverse=True)), (X, 30, 10, [10, 9, 6, 5]))
        self.assertEqual(list(Loft(N)), [])

    def test_equal_lofts(self):
        x = Loft(N, tear=X)
        for other, equal in (
            (x, True), (Loft(N, tear=X), True), (Loft((4, 4), tear=(5, 6, 9, 10)), True), (Loft(N), False),
            (Loft(N, tear=X[1:]), False), (Loft((4, 5), tear=X), False), (Loft((5, 4), tear=X), False), (x.twin(), True),
        ):
            self.assert_exactly((x == other, other == x, x != other, other != x), (equal, equal, not equal, not equal))
        for value in ODD_VALUES + (N, X, (N, X), str(x), [x], (x,), list(x)):
            self.assert_exactly((x == value, x != value, value == x, value != x), (False, True, False, True))

    def test_equal_also_with_other_deeds(self):
        x, y = Loft(N, tear=X), Loft(N)
        y.listen(len)
        y.trim(X)
        self.assert_exactly((x == y, x != y), (True, False))
        x.mend_all(P)
        self.assert_exactly((x == y, x == Loft(N), x.used), (False, True, 2))

    def test_its_text_is_that_of_its_net(self):
        for sheet, tear in samples(701, SHEETS[::4]):
            x = Loft(sheet, tear=tear)
            self.assert_exactly(str(x), net_text(sheet, tear))
            self.assert_exactly(read_net(str(x)), (x.sheet, x.tear))


class DeedsTest(LoftTest):
    def test_rip(self):
        x = Loft(N, tear=X)
        self.assert_exactly([x.rip(0), x.rip(15), x.rip(7)], [5, 6, 7])
        self.assert_shows(x, N, (0, 5, 6, 7, 9, 10, 15), 0)
        for bar in (0, 5, 16, -1, True, False, None, "3", (3,), [3], {}, 10 ** 39, x):
            error = self.assert_raises(NoBar, {}, x.rip, bar)
            self.assertIs(error.bar, bar)
        self.assert_exactly(len(x), 7)

    def test_trim(self):
        x = Loft(N, tear=X)
        for bars, number in (
            (None, -1), ([0, 1], -1), ("", -1), (0, -1), (x, -1), ((5,), 0), ((0, 5), 1), ((0, 0), 1), ((1, 0), 1),
            ((0, 16), 1), ((-1, 0), 0), ((True, 2), 0), ((0, True), 1), ((0, 1, None), 2), ((0, (1,)), 1), (("0",), 0),
        ):
            self.assert_raises(BadBars, {"number": number}, x.trim, bars)
        self.assert_exactly((x.trim((0, 7)), x.trim(()), x.trim((1, 2, 3, 4))), (6, 6, 10))
        self.assert_shows(x, N, (0, 1, 2, 3, 4, 5, 6, 7, 9, 10), 0)

    def test_mend(self):
        x = Loft(N, tear=X)
        for twine, word in (
            (None, "twine"), ((), "twine"), (((1, 1),), "twine"), ([(1, 1), (2, 2)], "twine"), (P, "twine"),
            (((1, 1), (True, 3)), "twine"), (((1, 1), (5, 5)), "twine"), (x, "twine"), ("", "twine"),
            (((1, 1), (0, 0)), "bar"), (((1, 1), (1, 3)), "bar"), (((1, 1), (1, 1)), "bar"),
            (((1, 1), (2, 2), (1, 1)), "twice"), (((1, 1), (2, 2), (3, 3)), "straight"),
        ):
            self.assert_raises(BadTwine, {"word": word}, x.mend, twine)
        self.assert_exactly(x.mend(P[0]), 2)
        self.assert_shows(x, N, (9, 10), 1)
        self.assert_raises(BadTwine, {"word": "bar"}, x.mend, P[0])
        self.assert_exactly(x.mend(P[1]), 0)
        self.assert_shows(x, N, (), 2)

    def test_straight_on_where_no_more_lacks(self):
        x = Loft(N, tear=X)
        self.assert_raises(BadTwine, {"word": "straight"}, x.mend, ((1, 1), (2, 2), (3, 3)))
        x.mend(((1, 3), (2, 2)))
        self.assert_raises(BadTwine, {"word": "straight"}, x.mend, ((1, 1), (2, 2), (3, 3)))
        x.mend(((2, 2), (3, 1)))
        self.assert_exactly(x.mend(((1, 1), (2, 2), (3, 3))), 0)

    def test_mend_all(self):
        x = Loft(N, tear=X)
        for value, number, word in (
            (None, None, "plan"), (list(P), None, "plan"), (x, None, "plan"), ((), None, "lacking"),
            (P[:1], None, "lacking"), (P + P[:1], 2, "twice"), ((P[0], None), 1, "twine"), (P[0], 0, "twine"),
            ((((1, 1), (0, 0)),), 0, "bar"), ((((1, 1), (2, 2), (3, 3)),), 0, "straight"), (("",), 0, "twine"),
        ):
            self.assert_raises(BadPlan, {"number": number, "word": word}, x.mend_all, value)
        self.assert_exactly(x.mend_all(P), 0)
        self.assert_shows(x, N, (), 2)
        self.assert_exactly(x.mend_all(()), 0)
        self.assert_shows(x, N, (), 2)
        self.assert_exactly((x.undo(), x.undo()), (0, 4))
        self.assert_shows(x, N, X, 0)

    def test_plans_with_more_twines_than_are_needed(self):
        x = Loft(N, tear=X)
        singles = tuple([(knot, (2, 2)) for knot in ((1, 1), (1, 3), (3, 1), (3, 3))])
        self.assert_exactly((x.mend_all(singles), x.used), (0, 4))

    def test_undo_and_redo(self):
        x = Loft(N, tear=X)
        self.assert_raises(NothingDone, {}, x.undo)
        self.assert_raises(NothingUndone, {}, x.redo)
        x.rip(0)
        x.mend(P[0])
        self.assert_exactly((x.undo(), x.used, x.tear), (5, 0, (0,) + X))
        self.assert_exactly((x.undo(), x.tear), (4, X))
        self.assert_raises(NothingDone, {}, x.undo)
        self.assert_exactly((x.redo(), x.redo(), x.used, x.tear), (5, 3, 1, (0, 9, 10)))
        self.assert_raises(NothingUndone, {}, x.redo)

    def test_a_new_deed_ends_what_was_taken_back(self):
        x = Loft(N, tear=X)
        x.rip(0)
        x.rip(1)
        x.undo()
        self.assert_raises(NoBar, {}, x.rip, 5)
        self.assert_exactly((x.redo(), x.undo(), x.trim(())), (6, 5, 5))
        self.assert_raises(NothingUndone, {}, x.redo)
        self.assert_exactly((x.undo(), x.undo(), x.redo(), x.redo(), x.tear), (5, 4, 5, 5, (0,) + X))

    def test_deeds_that_change_nothing_stand(self):
        x = Loft(N)
        self.assert_exactly((x.trim(()), x.mend_all(()), x.undo(), x.undo()), (0, 0, 0, 0))
        self.assert_raises(NothingDone, {}, x.undo)
        self.assert_exactly((x.redo(), x.redo()), (0, 0))

    def test_full_ahead_of_all_else(self):
        x = Loft((8, 8))
        for bar in range(30):
            self.assert_exactly(x.rip(bar), bar + 1)
        for call in (x.rip, x.trim, x.mend, x.mend_all):
            for value in (30, None, (), (30,), ((0, 0), (1, 1)), plan((8, 8), x.tear)):
                self.assert_raises(Full, {}, call, value)
        self.assert_exactly(x.undo(), 29)
        self.assert_raises(NoBar, {"bar": 0}, x.rip, 0)
        self.assert_exactly(x.redo(), 30)
        self.assert_raises(Full, {}, x.rip, 40)
        self.assert_exactly((x.undo(), x.rip(40)), (29, 30))
        self.assert_raises(Full, {}, x.rip, 41)
        self.assert_raises(NothingUndone, {}, x.redo)
        for left in range(29, -1, -1):
            self.assert_exactly(x.undo(), left)
        self.assert_raises(NothingDone, {}, x.undo)

    def test_what_raises_an_error_changes_nothing(self):
        x = Loft(N, tear=X)
        x.rip(0)
        x.rip(1)
        x.undo()
        calls = []
        x.listen(calls.append)
        for value in ODD_VALUES:
            for call in (x.rip, x.trim, x.mend, x.mend_all):
                told = Told(N, (0,) + X)
                error = told.error(call.__name__, value)
                if error is not None:
                    self.assertRaises(error[0], call, value)
                    self.assert_shows(x, N, (0,) + X, 0)
        self.assertEqual(calls, [])
        self.assert_exactly((x.redo(), x.tear), (6, (0, 1) + X))


class StoryTest(LoftTest):
    def play(self, sheet, tear, dice, steps):
        """Do deeds at random on a loft and on what the document tells of one."""
        x, told, raised = Loft(sheet, tear=tear), Told(sheet, tear), set()
        heard, expected = [], []
        x.listen(lambda loft: heard.append((loft is x, loft.tear, loft.used, loft.fewest())))
        for _ in range(steps):
            ahead = told.now()
            way = dice.random()
            word, value = some_deed(sheet, ahead[0], dice)
            if way < 0.15:
                word, error = "undo", (NothingDone, {}) if not told.deeds else None
            elif way < 0.3:
                word, error = "redo", (NothingUndone, {}) if not told.taken_back else None
            else:
                error = told.error(word, value)
            given = () if word in ("undo", "redo") else (value,)
            if error is not None:
                self.assert_raises(error[0], error[1], getattr(x, word), *given)
                raised.add(error[0])
            else:
                told.do(word, value) if given else getattr(told, word)()
                self.assert_exactly(getattr(x, word)(*given), len(told.now()[0]))
                raised.add(word)
            now = told.now()
            if fewest_as_told(sheet, now[0]) != fewest_as_told(sheet, ahead[0]):
                expected.append((True, now[0], now[1], fewest_as_told(sheet, now[0])))
            self.assert_exactly((x.tear, x.used, len(x)), (now[0], now[1], len(now[0])))
            self.assert_exactly(heard, expected)
        self.assert_shows(x, sheet, *told.now())
        return x, told, raised

    def test_deeds_at_random(self):
        dice, raised = random.Random(710), set()
        for sheet in [(1, 1), (1, 4), (2, 2), (3, 3), (4, 4), (5, 3), (6, 7)] + LARGE[:2]:
            for tear in plain_tears(sheet)[::3]:
                raised |= self.play(sheet, tear, dice, 40)[2]
        self.assertTrue({
            NoBar, BadBars, BadTwine, BadPlan, NothingDone, NothingUndone, "rip", "trim", "mend", "mend_all",
            "undo", "redo",
        } <= raised)

    def test_the_deeds_that_stand_done_on_a_new_loft(self):
        dice = random.Random(711)
        for sheet in [(3, 3), (4, 4), (5, 6)] * 3:
            x, told, _ = self.play(sheet, plain_tears(sheet)[dice.randrange(10)], dice, 30)
            other = Loft(sheet, tear=told.first)
            for word, value in told.deeds:
                getattr(other, word)(value)
            self.assert_exactly((other.tear, other.used, str(other)), (x.tear, x.used, str(x)))
            self.assertTrue(other == x)

    def test_until_it_is_full(self):
        dice, raised = random.Random(712), set()
        for sheet in [(4, 4), (8, 8)] * 2:
            x, told = Loft(sheet), Told(sheet, ())
            for _ in range(60):
                word, value = some_deed(sheet, told.now()[0], dice)
                error = told.error(word, value)
                if error is None:
                    told.do(word, value)
                    self.assert_exactly(getattr(x, word)(value), len(told.now()[0]))
                else:
                    self.assert_raises(error[0], error[1], getattr(x, word), value)
                    raised.add(error[0])
                self.assert_exactly((x.tear, x.used), told.now())
        self.assertIn(Full, raised)

    def test_a_net_that_is_trimmed_and_mended(self):
        for sheet, tear in (((4, 4), X), ((6, 6), (14, 15, 20, 21)), ((8, 8), (27, 28, 35))):
            x = Loft(sheet, tear=tear)
            bars = least_trim(sheet, x.tear, ())
            self.assert_exactly(x.trim(bars), len(tear) + len(bars))
            self.assert_exactly((x.fewest(), x.odd()), (1, ()))
            self.assert_exactly((x.mend_all(plan(sheet, x.tear)), x.used), (0, 1))


class ListenTest(LoftTest):
    def test_called_just_where_another_number_is_the_least(self):
        x, heard = Loft(N, tear=X), []
        self.assertEqual(x.listen(lambda loft: heard.append((loft.fewest(), len(loft)))), 0)
        x.trim((1, 2, 13, 14))
        self.assertEqual(heard, [(1, 8)])
        x.trim(())
        self.assertEqual(heard, [(1, 8)])
        # The four bars that lack round the place (3, 2) are a hole of their own then.
        x.mend(P[0])
        self.assertEqual(heard, [(1, 8), (2, 6)])
        x.rip(5)
        self.assertEqual(heard, [(1, 8), (2, 6), (1, 7)])
        del heard[:]
        x.mend(((1, 3), (0, 2)))
        self.assertEqual((x.fewest(), heard), (1, []))
        x.undo()
        self.assertEqual(heard, [])
        x.undo()
        x.undo()
        x.undo()
        x.undo()
        self.assertEqual(heard, [(2, 6), (1, 8), (2, 4)])
        x.redo()
        self.assertEqual(heard, [(2, 6), (1, 8), (2, 4), (1, 8)])
        x.mend_all(plan(N, x.tear))
        self.assertEqual(heard[4:], [(0, 0)])

    def test_in_the_order_of_listening(self):
        x, heard = Loft(N, tear=X), []
        numbers = [x.listen(lambda loft, name=name: heard.append(name)) for name in "abc"]
        self.assert_exactly(numbers, [0, 1, 2])
        x.mend_all(P)
        self.assertEqual(heard, ["a", "b", "c"])
        self.assert_exactly(x.unlisten(1), None)
        self.assert_exactly(x.listen(lambda loft: heard.append("d")), 3)
        x.undo()
        self.assertEqual(heard, ["a", "b", "c", "a", "c", "d"])

    def test_numbers_come_once_each(self):
        x = Loft(N)
        self.assert_exactly([x.listen(len), x.unlisten(0), x.listen(len), x.listen(len)], [0, None, 1, 2])
        x.unlisten(2)
        self.assert_exactly(x.listen(len), 3)

    def test_a_function_that_listens_twice_is_called_twice(self):
        x, heard = Loft(N, tear=X), []
        x.listen(heard.append)
        x.listen(heard.append)
        x.mend_all(P)
        self.assertEqual(len(heard), 2)
        self.assertTrue(heard[0] is x and heard[1] is x)
        x.unlisten(0)
        x.undo()
        self.assertEqual(len(heard), 3)

    def test_no_listener(self):
        x = Loft(N)
        x.listen(len)
        x.listen(len)
        x.listen(len)
        x.unlisten(1)
        for value in ODD_VALUES + (1, 3, -1, True, False, "0", (0,), [0], x):
            if type(value) is int and value in (0, 2):
                continue
            error = self.assert_raises(NoListener, {}, x.unlisten, value)
            self.assertIs(error.number, value)
        self.assert_exactly((x.unlisten(0), x.unlisten(2)), (None, None))
        self.assert_raises(NoListener, {"number": 0}, x.unlisten, 0)
        self.assert_raises(NoListener, {"number": 0}, Loft(N).unlisten, 0)

    def test_refused_deeds_are_not_heard(self):
        x, heard = Loft(N, tear=X), []
        x.listen(heard.append)
        for call, value in ((x.rip, 5), (x.trim, (5,)), (x.mend, None), (x.mend_all, ())):
            self.assertRaises(NetError, call, value)
        self.assertRaises(NetError, x.undo)
        self.assertRaises(NetError, x.redo)
        self.assertEqual(heard, [])


class TwinTest(LoftTest):
    def test_a_twin_has_the_same_deeds(self):
        x = Loft(N, tear=X)
        x.mend(P[0])
        x.rip(0)
        x.rip(1)
        x.undo()
        y = x.twin()
        self.assertIs(type(y), Loft)
        self.assert_exactly((x == y, y.tear, y.used), (True, (0, 9, 10), 1))
        self.assert_exactly((y.redo(), y.undo(), y.undo(), y.undo(), y.used), (4, 3, 2, 4, 0))
        self.assert_raises(NothingDone, {}, y.undo)
        self.assert_shows(y, N, X, 0)
        self.assert_shows(x, N, (0, 9, 10), 1)
        self.assert_exactly((x.redo(), x.undo()), (4, 3))

    def test_what_is_done_to_one_does_not_show_in_the_other_one(self):
        x = Loft(N, tear=X)
        x.rip(0)
        x.undo()
        y = x.twin()
        y.rip(3)
        self.assert_exactly((x.tear, y.tear), (X, (3,) + X))
        self.assert_exactly(x.redo(), 5)
        self.assert_raises(NothingUndone, {}, y.redo)
        z = y.twin()
        y.undo()
        self.assert_exactly((z.tear, y.tear, x.tear), ((3,) + X, X, (0,) + X))

    def test_deeds_of_one_are_not_undone_in_the_other_one(self):
        x = Loft(N, tear=X)
        x.rip(0)
        y = x.twin()
        self.assert_exactly((y.rip(1), y.mend(P[0]), x.undo(), x.tear), (6, 4, 4, X))
        self.assert_raises(NothingDone, {}, x.undo)
        self.assert_exactly((y.undo(), y.undo(), y.undo(), y.tear), (6, 5, 4, X))
        self.assert_raises(NothingDone, {}, y.undo)
        z = y.twin()
        self.assert_exactly((z.redo(), z.redo(), y.redo(), y.redo(), y.redo(), y.used), (5, 6, 5, 6, 4, 1))
        self.assert_raises(NothingUndone, {}, y.redo)
        self.assert_exactly((z.redo(), z.used, x.redo(), x.used), (4, 1, 5, 0))

    def test_a_twin_has_no_listeners(self):
        x, heard, others = Loft(N, tear=X), [], []
        x.listen(heard.append)
        y = x.twin()
        self.assert_raises(NoListener, {"number": 0}, y.unlisten, 0)
        y.mend_all(P)
        self.assertEqual(heard, [])
        self.assert_exactly(y.listen(others.append), 0)
        x.mend_all(P)
        self.assertEqual((len(heard), len(others)), (1, 0))
        y.undo()
        self.assertEqual((len(heard), len(others)), (1, 1))

    def test_a_twin_of_a_full_loft_is_full(self):
        x = Loft((8, 8))
        for bar in range(30):
            x.rip(bar)
        y = x.twin()
        self.assert_raises(Full, {}, y.rip, 40)
        y.undo()
        self.assert_exactly((y.rip(40), len(x)), (30, 30))


class WholeLoftTest(LoftTest):
    def test_the_example_of_the_document(self):
        x = Loft(N, tear=X)
        found = [
            x.fewest(), x.trim((1, 2, 13, 14)), x.fewest(), x.mend(((1, 1), (2, 2), (1, 3))), x.used, x.undo(),
            x.redo(), len(x), 5 in x, x.odd(),
        ]
        self.assert_exactly(found, [2, 8, 1, 6, 1, 8, 6, 6, False, ((1, 1), (1, 3))])

    def test_arguments_by_name(self):
        x = Loft(N, tear=X)
        self.assert_exactly((x.rip(bar=0), x.trim(bars=(1,)), x.mend(twine=P[0])), (5, 6, 4))
        self.assert_exactly(x.mend_all(plan=plan(N, x.tear)), 0)
        self.assert_exactly((x.listen(function=len), x.unlisten(number=0)), (0, None))

    def test_the_arguments_stay(self):
        x, value = Loft(N, tear=X), [1, [2]]
        error = self.assert_raises(NoBar, {}, x.rip, value)
        self.assertIs(error.bar, value)
        self.assertEqual(value, [1, [2]])


if __name__ == "__main__":
    unittest.main()
