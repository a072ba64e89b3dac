"""Holes without odd knots and their turnings, as the document tells them.

As in tests.nets nothing of the package is used here.
"""

import itertools
import random

from tests.nets import (
    at_as_told, ends_as_told, holes_as_told, knots_as_told, laced, odd_as_told, some_squares,
)


def crossings_as_told(sheet, tear):
    return tuple([knot for knot in knots_as_told(sheet) if len(at_as_told(sheet, tear, knot)) == 4])


def far_as_told(sheet, bar, knot):
    one, other = ends_as_told(sheet, bar)
    return other if knot == one else one


def side(sheet, knot, bar, turn):
    """Whether the bar is an upper one at the knot (asked for the turn 0), or a left one (for 1)."""
    return far_as_told(sheet, bar, knot)[turn] < knot[turn]


def next_bar(sheet, tear, turns, knot, bar):
    """By which bar it goes on what comes to the knot by this one."""
    others = [other for other in at_as_told(sheet, tear, knot) if other != bar]
    if knot in turns:
        turn = turns[knot]
        others = [other for other in others if side(sheet, knot, other, turn) == side(sheet, knot, bar, turn)]
    assert len(others) == 1
    return others[0]


def ring_from(sheet, tear, turning, start, first):
    """The knots and the bars, one behind another, of the ring that leaves the knot by this bar."""
    turns = dict(zip(crossings_as_told(sheet, tear), turning))
    knot, bar = far_as_told(sheet, first, start), first
    knots, bars = [start, knot], [first]
    while (knot, next_bar(sheet, tear, turns, knot, bar)) != (start, first):
        bar = next_bar(sheet, tear, turns, knot, bar)
        knot = far_as_told(sheet, bar, knot)
        knots.append(knot)
        bars.append(bar)
    return tuple(knots), bars


def loops_as_told(sheet, tear, turning):
    left, many = list(tear), 0
    while left:
        start = ends_as_told(sheet, left[0])[0]
        bars = ring_from(sheet, tear, turning, start, left[0])[1]
        left = [bar for bar in left if bar not in bars]
        many += 1
    return many


def ring_as_told(sheet, tear, turning):
    first = min(knot for bar in tear for knot in ends_as_told(sheet, bar))
    return ring_from(sheet, tear, turning, first, at_as_told(sheet, tear, first)[0])[0]


def all_turnings(sheet, tear):
    return list(itertools.product((0, 1), repeat=len(crossings_as_told(sheet, tear))))


def whole_as_told(sheet, tear):
    return [turning for turning in all_turnings(sheet, tear) if loops_as_told(sheet, tear, turning) == 1]


def even_holes(seed, sheets, rounds=1, most=None):
    """Pairs of a sheet and a hole without odd knots; with at most so many crossings."""
    dice = random.Random(seed)
    for _ in range(rounds):
        for sheet in sheets:
            tears = [laced(sheet, dice, share) for share in (0.0, 0.06, 0.12, 0.25)]
            for tear in tears + [some_squares(sheet, dice)]:
                for hole in holes_as_told(sheet, tear)[:4]:
                    assert not odd_as_told(sheet, hole)
                    if most is None or len(crossings_as_told(sheet, hole)) <= most:
                        yield sheet, hole
