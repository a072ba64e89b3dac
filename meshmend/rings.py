"""Rings: the ways to go round a hole without odd knots, and their numbers."""

from meshmend.errors import NoRing, NotEven
from meshmend.patches import patch_joints, whole_behind
from meshmend.plans import bars_along, pairings_at, passes_of, twines_by, walk
from meshmend.sheets import is_integer_within, knots
from meshmend.tears import lacking_at, lacks, odd
from meshmend.trims import need_one_hole


def crossings(sheet, tear):
    """Return the ascending tuple of the knots at which four bars lack."""
    need_one_hole(sheet, tear)
    amiss = odd(sheet, tear)
    if amiss:
        raise NotEven(amiss[0])
    return tuple([knot for knot in knots(sheet) if lacks(sheet, tear, knot) == 4])


def loops(sheet, tear, turning):
    """Return how many rings the turning makes."""
    return len(twines_by(sheet, tear, _pairs_by(sheet, tear, turning)))


def rings(sheet, tear):
    """Return how many turnings are whole."""
    return whole_behind(joints_of(sheet, tear), ())


def ring_at(sheet, tear, value):
    """Return the whole turning with the number value; raise NoRing if there is none."""
    joined = joints_of(sheet, tear)
    if not is_integer_within(value, 0, whole_behind(joined, ()) - 1):
        raise NoRing(value)
    turning, left = (), value
    for _ in crossings(sheet, tear):
        many = whole_behind(joined, turning + (0,))
        if left < many:
            turning = turning + (0,)
        else:
            turning, left = turning + (1,), left - many
    return turning


def ring_number(sheet, tear, value):
    """Return the number of the whole turning value; raise NoRing if it is none."""
    joined = joints_of(sheet, tear)
    if not _is_turning(value, len(crossings(sheet, tear))) or whole_behind(joined, value) == 0:
        raise NoRing(value)
    return sum([whole_behind(joined, value[:at] + (0,)) for at, turn in enumerate(value) if turn == 1])


def ring_of(sheet, tear, turning):
    """Return the ring that the whole turning makes, from the first knot by the first bar that lacks there."""
    chosen = _pairs_by(sheet, tear, turning)
    first = [knot for knot in knots(sheet) if lacks(sheet, tear, knot) > 0][0]
    return walk(sheet, chosen, first, lacking_at(sheet, tear, first)[0])


def turning_of(sheet, tear, twine):
    """Return the turning that makes this ring."""
    at = crossings(sheet, tear)
    turns = {}
    for knot, one, other in passes_of(twine, bars_along(sheet, twine)):
        if knot in at:
            sideways = pairings_at(sheet, tear, knot)[1]
            turns[knot] = 1 if (min(one, other), max(one, other)) in sideways else 0
    return tuple([turns[knot] for knot in at])


def joints_of(sheet, tear):
    """Return what whole_behind asks for."""
    return patch_joints(sheet, tear, crossings(sheet, tear))


def _pairs_by(sheet, tear, turning):
    """Return the pairs of bars by which the turning passes each knot."""
    turns = {knot: turn for knot, turn in zip(crossings(sheet, tear), turning)}
    return {knot: pairings_at(sheet, tear, knot)[turns.get(knot, 0)] for knot in knots(sheet)}


def _is_turning(value, many):
    """Tell whether value, of any kind, is a tuple of so many turns."""
    if not isinstance(value, tuple) or len(value) != many:
        return False
    return all([is_integer_within(turn, 0, 1) for turn in value])
