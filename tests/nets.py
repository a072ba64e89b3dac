"""Sheets, tears and values to test with, and what the document says of them.

The functions with "as_told" follow the words of the document on their own ways
and use nothing of the package.
"""

import functools
import random
import unittest

SHEETS = [(deep, wide) for deep in range(1, 9) for wide in range(1, 9)]
LARGE = [(8, 8), (8, 7), (7, 8), (7, 7), (6, 8), (8, 5)]

DEEP_TUPLE = DEEP_LIST = 0
for _ in range(11):
    DEEP_TUPLE, DEEP_LIST = (DEEP_TUPLE, 1), [DEEP_LIST, 1]

ODD_VALUES = (
    True, False, None, 0, 1, -1, 63, 64, 10 ** 40 - 1, -(10 ** 40 - 1),
    "", "0", "bar", "(1, 1)", "\n", "x" * 3000, [], [0], [1, 2], [(1, 1)], [[1, 1], [2, 2]],
    {}, {0: 1}, {"a": (1, 1)}, {(1, 1): (2, 2)}, (), (None,), (True,), (False,), ("",), ((),),
    ((), ()), ([], []), ([1, 1], [2, 2]), ((1, 1),), ((1, 1), None), ((1, 1), True),
    ((True, True), (2, 2)), ((True, 1), (0, 0)), ((False, 0), (1, 1)), ((0, False), (1, True)),
    ((1, 1), (2, 2), (1, 1, 1)), (((1, 1),),), (((1, 1), (2, 2)),), (((1, 1), (2, 2)), 5),
    [((1, 1), (2, 2))], ((-1, -1), (0, 0)), ((9, 9), (8, 8)), ((0, 1), (1, 0)),
    DEEP_TUPLE, DEEP_LIST, (0,) * 4000, ((1, 1),) * 1300, tuple([(k, k) for k in range(1300)]),
    (((1, 1), (2, 2)),) * 500, tuple(range(4000)),
)


class ExactTest(unittest.TestCase):
    def assert_exactly(self, found, expected):
        """Compare by repr as well: Python calls True and 1 equal."""
        self.assertEqual(repr(found), repr(expected))


def all_bars(sheet):
    return tuple(range(sheet[0] * sheet[1]))


def is_knot_as_told(sheet, row, col):
    return 0 <= row <= sheet[0] and 0 <= col <= sheet[1] and (row + col) % 2 == 0


def knots_as_told(sheet):
    return [
        (row, col) for row in range(sheet[0] + 1) for col in range(sheet[1] + 1)
        if is_knot_as_told(sheet, row, col)
    ]


@functools.lru_cache(maxsize=4096)
def ends_as_told(sheet, bar):
    """The upper and the lower knot, in the words of the document."""
    r, c = bar // sheet[1], bar % sheet[1]
    if (r + c) % 2 == 0:
        return ((r, c), (r + 1, c + 1))
    return ((r, c + 1), (r + 1, c))


def at_as_told(sheet, bars, knot):
    return [bar for bar in bars if knot in ends_as_told(sheet, bar)]


@functools.lru_cache(maxsize=4096)
def odd_as_told(sheet, tear):
    return tuple([
        knot for knot in knots_as_told(sheet) if len(at_as_told(sheet, tear, knot)) % 2
    ])


@functools.lru_cache(maxsize=4096)
def holes_as_told(sheet, tear):
    """Spread from bar to bar over common knots."""
    left, found = sorted(tear), []
    while left:
        hole = [left.pop(0)]
        for bar in hole:
            near = [
                other for other in left
                if set(ends_as_told(sheet, bar)) & set(ends_as_told(sheet, other))
            ]
            left = [other for other in left if other not in near]
            hole.extend(near)
        found.append(tuple(sorted(hole)))
    return tuple(sorted(found))


def fewest_as_told(sheet, tear):
    total = 0
    for hole in holes_as_told(sheet, tear):
        total += max(1, len(odd_as_told(sheet, hole)) // 2)
    return total


def bar_as_told(sheet, one, other):
    for bar in all_bars(sheet):
        if set(ends_as_told(sheet, bar)) == {one, other}:
            return bar
    return None


def is_pair_of_integers(value):
    # A truth has another class than int, though it is one of its instances.
    return type(value) is tuple and len(value) == 2 and [type(item) for item in value] == [int, int]


def word_as_told(sheet, tear, item, gone):
    """The word for one item of a plan, None if it is right."""
    if type(item) is not tuple or len(item) < 2:
        return "twine"
    for knot in item:
        if not is_pair_of_integers(knot) or not is_knot_as_told(sheet, *knot):
            return "twine"
    joined = {frozenset(ends_as_told(sheet, bar)) for bar in tear}
    steps = [frozenset(pair) for pair in zip(item, item[1:])]
    if not set(steps) <= joined:
        return "bar"
    if len(set(steps)) < len(steps) or set(steps) & gone:
        return "twice"
    triples = list(zip(item, item[1:], item[2:]))
    if item[0] == item[-1]:
        triples.append((item[-2], item[0], item[1]))
    for before, knot, behind in triples:
        straight = all(before[k] + behind[k] == 2 * knot[k] for k in (0, 1))
        if straight and len(at_as_told(sheet, tear, knot)) > 2:
            return "straight"
    gone.update(steps)
    return None


def plan_error_as_told(sheet, tear, value):
    if type(value) is not tuple:
        return (None, "plan")
    gone = set()
    for number, item in enumerate(value):
        word = word_as_told(sheet, tear, item, gone)
        if word is not None:
            return (number, word)
    return None if len(gone) == len(tear) else (None, "lacking")


def grown(sheet, dice, size):
    """A hole of at most size bars, grown from one bar."""
    hole = [dice.choice(all_bars(sheet))]
    while len(hole) < size:
        reached = {knot for bar in hole for knot in ends_as_told(sheet, bar)}
        near = [
            bar for bar in all_bars(sheet)
            if bar not in hole and reached & set(ends_as_told(sheet, bar))
        ]
        if not near:
            break
        hole.append(dice.choice(near))
    return tuple(sorted(hole))


def squares(sheet):
    """The four bars round each place amid the sheet that is no knot."""
    deep, wide = sheet
    return [
        tuple([(row - 1) * wide + col - 1, (row - 1) * wide + col, row * wide + col - 1, row * wide + col])
        for row in range(1, deep) for col in range(1, wide) if (row + col) % 2
    ]


def laid_over(parts):
    """The bars that stand in an odd number of the parts."""
    bars = set()
    for part in parts:
        bars ^= set(part)
    return tuple(sorted(bars))


def some_squares(sheet, dice):
    return laid_over([part for part in squares(sheet) if dice.random() < 0.5])


def laced(sheet, dice, share=0.0):
    """The squares of every other row, which cross one another, with a share of all put otherwise."""
    row = dice.randrange(2)
    return laid_over([
        part for part in squares(sheet) if (part[0] // sheet[1] % 2 == row) != (dice.random() < share)
    ])


def thinned(bars, dice, share):
    return tuple([bar for bar in bars if dice.random() < share])


def without(bars, left_out):
    return tuple([bar for bar in bars if bar not in left_out])


def plain_tears(sheet):
    """None, all, every other bar, a chess of bars and of blocks, all squares."""
    bars, wide = all_bars(sheet), sheet[1]
    return [
        (), bars, bars[::2], bars[1::2], bars[:1], bars[-1:], bars[::3],
        tuple([bar for bar in bars if (bar // wide + bar % wide) % 2 == 0]),
        tuple([bar for bar in bars if (bar // wide + bar % wide) % 2]),
        tuple([bar for bar in bars if (bar // wide // 2 + bar % wide // 2) % 2]),
        laid_over(squares(sheet)), laid_over(squares(sheet)[::2]),
    ]


def tears_of(sheet, dice):
    """Tears of all kinds, each as often as it comes."""
    bars = all_bars(sheet)
    found = plain_tears(sheet)
    found += [thinned(bars, dice, share) for share in (0.15, 0.4, 0.6, 0.85)]
    found += [grown(sheet, dice, size) for size in (2, 5, 12, 30)]
    found += [without(bars, dice.sample(bars, min(3, len(bars))))]
    found += [some_squares(sheet, dice), without(some_squares(sheet, dice), bars[:4])]
    return found


def samples(seed, sheets=SHEETS, rounds=1):
    """Pairs of a sheet and a tear, the same ones at each run."""
    dice = random.Random(seed)
    for _ in range(rounds):
        for sheet in sheets:
            for tear in tears_of(sheet, dice):
                yield sheet, tear


def all_tears(sheet):
    bars = all_bars(sheet)
    for mask in range(2 ** len(bars)):
        yield tuple([bar for bar in bars if mask >> bar & 1])


def one_holes(seed, sheets, rounds=1):
    """Pairs of a sheet and a tear that is one hole."""
    for sheet, tear in samples(seed, sheets, rounds):
        for hole in holes_as_told(sheet, tear)[:3]:
            yield sheet, hole
