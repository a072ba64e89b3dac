"""The module trimchecker of point [7] of the document, checked against its own words."""

import random
import unittest

from meshmend.errors import NoPaper, NotOne, TooMany
from meshmend.trimchecker import lets_trim
from meshmend.trimpapers import trim_paper
from tests.nets import (
    LARGE, ODD_VALUES, SHEETS, ExactTest, all_bars, ends_as_told, grown, holes_as_told, knots_as_told,
    laced, one_holes, samples, squares, without,
)
from tests.papers import all_ends, is_trim, lots_as_told, some_ends, told_of_paper, wrong_as_told

N = (4, 4)
X = (5, 6, 9, 10)
TRIM = (1, 2, 13, 14)
L = (((1, 1),), ((1, 3),), ((3, 1),), ((3, 3),))

# What stands in the places of words, bars, knots and tuples to try them.
STRANGE = (True, False, None, 0, 1, -1, 63, 64, "least", "never", "", (), [], {}, ((),), (0,), ((0, 0),), [(1, 1)])


def bent(value, dice):
    """The value with one thing put otherwise, at any depth of it."""
    if type(value) is not tuple or not value or dice.random() < 0.1:
        return dice.choice(STRANGE + (list(value) if type(value) is tuple else (value,),))
    items, at = list(value), dice.randrange(len(value))
    way = dice.randrange(7)
    if way == 0:
        del items[at]
    elif way == 1:
        items.insert(dice.randrange(len(items) + 1), items[at])
    elif way == 2:
        items.reverse()
    elif way == 3:
        items.insert(at, dice.choice(STRANGE))
    else:
        items[at] = bent(items[at], dice)
    return tuple(items)


def put_otherwise(sheet, tear, paper, dice):
    """A paper with another trim or other lots, of bars and knots of the sheet."""
    lots = list(paper[-1]) if paper[0] == "least" else [paper[1]]
    trim = paper[1] if paper[0] == "least" else ()
    knot, at = dice.choice(knots_as_told(sheet)), dice.randrange(len(lots) + 1)
    way = dice.randrange(8)
    if way == 0:
        trim = tuple(sorted(set(trim) ^ {dice.choice(all_bars(sheet))}))
    elif way == 1 and squares(sheet):
        trim = tuple(sorted(set(trim) ^ set(dice.choice(squares(sheet)))))
    elif way == 2:
        lots.insert(at, dice.choice(lots_as_told(sheet, tear)))
    elif way == 3:
        lots.insert(at, (knot,))
    elif lots and way == 4:
        lots[at % len(lots)] = dice.choice(lots)
    elif lots and way == 5:
        lots[at % len(lots)] = tuple(sorted(set(knots_as_told(sheet)) - set(lots[at % len(lots)])))
    elif lots:
        lots[at % len(lots)] = tuple(sorted(set(lots[at % len(lots)]) ^ {knot}))
    if paper[0] == "never":
        return ("never", lots[at % len(lots)])
    return ("least", trim, tuple(lots))


def cut_bars(sheet, tear, dice):
    """Bars that lack, no two of which have a knot in common, such that without them the tear is one hole."""
    taken, met = [], set()
    for bar in dice.sample(tear, len(tear)):
        if not met & set(ends_as_told(sheet, bar)):
            if len(holes_as_told(sheet, without(tear, taken + [bar]))) == 1:
                taken.append(bar)
                met.update(ends_as_told(sheet, bar))
    return tuple(sorted(taken))


class CheckerTest(ExactTest):
    def assert_told(self, expected, sheet, tear, ends, value):
        """Check a word that is returned, or a pair of word and number that is raised."""
        if type(expected) is str:
            self.assert_exactly(lets_trim(sheet, tear, ends, value), expected)
        else:
            with self.assertRaises(NoPaper) as seen:
                lets_trim(sheet, tear, ends, value)
            self.assert_exactly((seen.exception.word, seen.exception.number), expected)

    def assert_as_told(self, sheet, tear, ends, value):
        expected = told_of_paper(sheet, tear, ends, value)
        self.assert_told(expected, sheet, tear, ends, value)
        return expected

    def papers(self, seed, sheets, rounds):
        dice = random.Random(seed)
        for sheet, tear in one_holes(seed, sheets, rounds):
            for ends in some_ends(sheet, tear, dice, 2):
                try:
                    yield sheet, tear, ends, trim_paper(sheet, tear, ends)
                except TooMany:
                    pass

    def test_papers_of_trim_paper(self):
        for sheet, tear, ends, paper in self.papers(220, SHEETS[::2] + LARGE, 1):
            self.assert_exactly(self.assert_as_told(sheet, tear, ends, paper), paper[0])

    def test_papers_with_one_thing_put_otherwise(self):
        dice = random.Random(221)
        seen = {}
        for sheet, tear, ends, paper in self.papers(222, SHEETS[::3], 1):
            for _ in range(8):
                told = self.assert_as_told(sheet, tear, ends, bent(paper, dice))
                word = told if type(told) is str else told[0]
                seen[word] = seen.get(word, 0) + 1
        words = ("least", "never", "shape", "trim", "even", "lots", "lot", "leaves")
        self.assertEqual([word for word in words if seen.get(word, 0) < 20], [], seen)

    def test_papers_with_other_trims_and_lots(self):
        dice = random.Random(223)
        seen = {}
        for sheet, tear, ends, paper in self.papers(224, SHEETS[::2] + LARGE[:2], 1):
            for _ in range(4):
                other = put_otherwise(sheet, tear, paper, dice)
                told = self.assert_as_told(sheet, tear, ends, other)
                key = (paper[0], told if type(told) is str else told[0])
                seen[key] = seen.get(key, 0) + 1
        keys = [("least", word) for word in ("least", "trim", "even", "lots", "lot", "leaves")]
        keys += [("never", word) for word in ("never", "lot", "leaves")]
        self.assertEqual([key for key in keys if seen.get(key, 0) < 20], [], seen)

    def test_any_value(self):
        for value in ODD_VALUES:
            self.assert_as_told(N, X, (), value)
            self.assert_as_told(N, X, (), (value,))
            for word in ("least", "never", value):
                self.assert_as_told(N, X, (), (word, value))
                self.assert_as_told(N, X, (), (word, value, L))
                self.assert_as_told(N, X, (), (word, TRIM, value))
                self.assert_as_told(N, X, (), (word, value, value))
            self.assert_as_told(N, X, (), ("never", (value,)))
            self.assert_as_told(N, X, (), ("least", TRIM[:1] + (value,) + TRIM[2:], L))
            self.assert_as_told(N, X, (), ("least", TRIM, L[:2] + (value,) + L[3:]))
            self.assert_as_told(N, X, (), ("least", TRIM, L[:2] + ((value,),) + L[3:]))

    def test_shapes(self):
        for value in (
            ("least", TRIM), ("never", TRIM, L), ("least", TRIM, L, ()), ("never", (), ()), ("never",), ("least",),
            ["least", TRIM, L], ["never", ()], ("Least", TRIM, L), ("NEVER", ()), ("least", list(TRIM), L),
            ("least", TRIM, list(L)), ("never", [(1, 1)]), ("shape", ()), (TRIM, L), ("least ", TRIM, L),
            ("least", None, L), ("never", None), "least", "never", None, (("least", TRIM, L),),
        ):
            self.assert_told(("shape", -1), N, X, (), value)

    def test_trims(self):
        # The bar 5 lacks, 16 is none of the sheet.
        for trim, number in (
            ((5,), 0), ((1, 5, 13, 14), 1), ((1, 1, 2), 1), ((2, 1, 13, 14), 1), ((1, 2, 13, 16), 3),
            ((-1, 1), 0), ((True, 2, 13, 14), 0), ((1, 2, 13, "14"), 3), (("",), 0), (((1,),), 0),
            ((1, 2, 14, 13), 3), ((0, False), 1), ((1, 2, None, 14), 2),
        ):
            self.assert_told(("trim", number), N, X, (), ("least", trim, L))
            self.assert_told(("trim", number), N, X, (), ("least", trim, ()))
        for trim in ((), (1,), (1, 2), (1, 2, 13), (1, 2, 13, 15)):
            self.assert_told(("even", -1), N, X, (), ("least", trim, L))
        # The other way round the four odd knots is as short.
        self.assert_told("least", N, X, (), ("least", (4, 7, 8, 11), L))

    def test_a_trim_that_is_not_least_has_no_paper(self):
        sheet, tear, ends = (6, 8), (0,), ends_as_told((6, 8), 0)
        found = 0
        for other in squares(sheet):
            if 0 not in other:
                self.assertTrue(is_trim(sheet, tear, ends, other))
                self.assert_told(("lots", -1), sheet, tear, ends, ("least", other, ()))
                lots = tuple([((0, 0),)] * 4)
                self.assert_told(("lot", 0), sheet, tear, ends, ("least", other, lots))
                found += 1
        self.assertGreater(found, 5)

    def test_as_many_lots_as_bars(self):
        self.assert_told("least", N, X, (), ("least", TRIM, L))
        for lots in ((), L[:1], L[:3], L + L[:1], L + ((),), (1,), L + (None,)):
            self.assert_told(("lots", -1), N, X, (), ("least", TRIM, lots))
        self.assert_told(("lots", -1), N, (1, 2, 5, 6), (), ("least", (), (((1, 1),),)))
        self.assert_told("least", N, (1, 2, 5, 6), (), ("least", (), ()))

    def test_lots(self):
        for lot in (
            (), [(1, 1)], ((1, 1), (1, 1)), ((1, 3), (1, 1)), ((True, 1),), ((1, True),), ((0, 1),), ((5, 5),),
            ((1, 1, 1),), ((-1, 1),), ([1, 1],), ("11",), (5,), None, 1, "", ((0, 0),), ((1, 1), (1, 3)), ((2, 2),),
            ((1, 1), (0, 0)), ((1, 1), None),
        ):
            for number in range(4):
                lots = L[:number] + (lot,) + L[number + 1:]
                self.assert_told(("lot", number), N, X, (), ("least", TRIM, lots))
            if type(lot) is tuple:
                self.assert_told(("lot", 0), N, X, (), ("never", lot))
        self.assert_told(("lot", 1), N, X, (), ("least", TRIM, (L[0], (), None, 1)))

    def test_bars_that_leave_lots(self):
        # At (1, 1) the bars 0, 1 and 4 are whole, and 5 lacks.
        self.assert_told(("leaves", 0), N, X, (), ("never", ((1, 1),)))
        self.assert_told(("leaves", 2), N, X, (), ("never", ((1, 3),)))
        self.assert_told(("leaves", 0), N, X, (), ("least", TRIM, (L[0], L[0], L[2], L[3])))
        self.assert_told(("leaves", 2), N, X, (), ("least", TRIM, (L[0], L[1], L[1], L[3])))
        self.assert_told(("leaves", 11), N, X, (), ("least", TRIM, (L[0], L[3], L[2], L[3])))
        self.assert_told(("leaves", 1), N, X, (), ("least", TRIM, (L[0], ((0, 2), (1, 3)), L[2], L[3])))
        # The knot (2, 2) has no whole bar: it may stand in any lot.
        self.assert_told("least", N, X, (), ("least", TRIM, (((1, 1), (2, 2)), L[1], L[2], L[3])))
        self.assert_told("never", N, X, ((1, 1), (2, 2)), ("never", ((2, 2),)))
        # The lot within another one: a bar between leaves just the one within.
        around = ((0, 0), (0, 2), (1, 1), (2, 0))
        self.assert_told(("leaves", 2), N, X, (), ("least", TRIM, (L[0], L[1], around, L[3])))
        self.assert_told(("leaves", 2), N, X, (), ("never", around))

    def test_more_wrong_knots_than_trim_paper_takes(self):
        found = {"least": 0, "never": 0}
        dice = random.Random(225)
        for sheet in LARGE * 4:
            # Each bar that is taken out of a tear without odd knots makes both of its ends wrong.
            for hole in holes_as_told(sheet, laced(sheet, dice, 0.1)):
                trim = cut_bars(sheet, hole, dice)
                if len(trim) > 4:
                    tear = without(hole, trim)
                    lots = tuple([(end,) for bar in trim for end in ends_as_told(sheet, bar) if end[0] % 2])
                    self.assertEqual(len(wrong_as_told(sheet, tear, ())), 2 * len(trim))
                    self.assert_told("least", sheet, tear, (), ("least", trim, lots))
                    self.assert_told(("lots", -1), sheet, tear, (), ("least", trim, lots[1:]))
                    for _ in range(5):
                        self.assert_as_told(sheet, tear, (), bent(("least", trim, lots), dice))
                    found["least"] += 1
        for sheet, tear in one_holes(226, LARGE, 2):
            for ends in all_ends(sheet, tear)[:20:5]:
                amiss = wrong_as_told(sheet, tear, ends)
                for lot in lots_as_told(sheet, tear):
                    if len(amiss) > 8:
                        told = self.assert_as_told(sheet, tear, ends, ("never", lot))
                        self.assertEqual(told == "never", len(set(lot) & set(amiss)) % 2 == 1)
                        found["never"] += told == "never"
        self.assertGreater(found["least"], 5)
        self.assertGreater(found["never"], 5)

    def test_not_one_hole_ahead_of_all_else(self):
        for sheet, tear in samples(227, SHEETS[::3]):
            many = len(holes_as_told(sheet, tear))
            if many != 1:
                for value in (None, ("least", (), ()), ("never", ()), ("least", TRIM, L)):
                    with self.assertRaises(NotOne) as seen:
                        lets_trim(sheet, tear, (), value)
                    self.assert_exactly(seen.exception.number, many)

    def test_holes_grown_from_one_bar(self):
        dice = random.Random(228)
        for sheet in LARGE:
            for size in (3, 9, 20):
                tear = grown(sheet, dice, size)
                for ends in some_ends(sheet, tear, dice, 2):
                    if len(wrong_as_told(sheet, tear, ends)) <= 8:
                        paper = trim_paper(sheet, tear, ends)
                        self.assert_told(paper[0], sheet, tear, ends, paper)
                        for _ in range(6):
                            self.assert_as_told(sheet, tear, ends, bent(paper, dice))

    def test_the_arguments_stay_and_the_same_call_gets_the_same_answer(self):
        lots = [list(lot) for lot in L]
        value = ("least", TRIM, tuple(lots))
        before = repr(value)
        for _ in range(2):
            self.assert_told(("lot", 0), N, X, (), value)
            self.assert_told("least", N, X, (), ("least", TRIM, L))
        self.assertEqual(repr(value), before)

    def test_arguments_by_name(self):
        self.assert_exactly(lets_trim(value=("least", TRIM, L), ends=(), tear=X, sheet=N), "least")

    def test_the_example_of_the_document(self):
        self.assert_exactly(lets_trim(N, X, (), ("least", (1, 2, 13, 14), L)), "least")


if __name__ == "__main__":
    unittest.main()
