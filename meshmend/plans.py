"""Plans: twines that go over all bars that lack, and how few do."""

from meshmend.sheets import are_opposite, bar_between, ends_of, far_end, is_knot, knots
from meshmend.tears import holes, lacking_at, lacks, odd


def bars_along(sheet, twine):
    """Return the tuple of the bars that the twine goes over, one behind another."""
    return tuple([bar_between(sheet, one, other) for one, other in zip(twine, twine[1:])])


def fewest(sheet, tear):
    """Return the least number of twines of a plan."""
    return sum([max(1, len(odd(sheet, hole)) // 2) for hole in holes(sheet, tear)])


def plan(sheet, tear):
    """Return a plan with as few twines as there can be."""
    pairings = {knot: pairings_at(sheet, tear, knot) for knot in knots(sheet)}
    chosen = {knot: pairings[knot][0] for knot in pairings}
    twines = twines_by(sheet, tear, chosen)
    # Where a ring meets another twine, the other pairing makes one of both, so
    # in the end each ring is a hole of its own. Of the twines that are no rings
    # just one ends at each odd knot. That makes as many as fewest tells.
    for knot in pairings:
        if _ring_meets_other(twines, knot):
            chosen[knot] = pairings[knot][1]
            twines = twines_by(sheet, tear, chosen)
    return tuple(twines)


def pairings_at(sheet, tear, knot):
    """Return the one or two ways to pair the bars that lack at the knot by good passes.

    Of four bars: the upper two and the lower two, then the left two and the right two.
    """
    at = lacking_at(sheet, tear, knot)
    pairs = [(one, other) for one in at for other in at if one < other]
    if len(at) < 3:
        return (pairs,)
    good = [(one, other) for one, other in pairs if not are_opposite(sheet, one, other)]
    # Four bars have four good pairs, the upper one first and the lower one
    # last. Three bars have two good pairs, which share a bar.
    return (good[:1] + good[3:], good[1:3])


def twines_by(sheet, tear, chosen):
    """Return the twines that come of the pairs that are chosen for each knot."""
    starts = [(knot, bar) for bar in tear for knot in ends_of(sheet, bar)]
    loose = [(knot, bar) for knot, bar in starts if _partner(chosen[knot], bar) is None]
    gone = {}
    twines = []
    # Those with ends come first, as they have to begin at one of these. What
    # is left then are rings, which may begin anywhere.
    for knot, bar in loose + starts:
        if bar not in gone:
            twine = walk(sheet, chosen, knot, bar)
            gone.update({along: True for along in bars_along(sheet, twine)})
            twines.append(twine)
    return twines


def walk(sheet, chosen, start, first):
    """Return the twine that begins at the knot start by the bar first."""
    knot, bar = far_end(sheet, first, start), first
    twine = [start, knot]
    bar = _partner(chosen[knot], bar)
    while bar is not None and (knot, bar) != (start, first):
        knot = far_end(sheet, bar, knot)
        twine.append(knot)
        bar = _partner(chosen[knot], bar)
    return tuple(twine)


def _partner(pairs, bar):
    """Return the bar that is paired with this one; None if there is none."""
    for one, other in pairs:
        if bar == one:
            return other
        if bar == other:
            return one
    return None


def _ring_meets_other(twines, knot):
    """Tell whether two twines come to the knot, of which one or both are rings."""
    met = [twine for twine in twines if knot in twine]
    return len(met) == 2 and any([twine[0] == twine[-1] for twine in met])


def plan_error(sheet, tear, value):
    """Return None for a plan, otherwise the number of the first wrong item and a word."""
    if not isinstance(value, tuple):
        return (None, "plan")
    gone = []
    for number, item in enumerate(value):
        word = _twine_error(sheet, tear, item, gone)
        if word is not None:
            return (number, word)
        gone.extend(bars_along(sheet, item))
    if len(gone) < len(tear):
        return (None, "lacking")
    return None


def _twine_error(sheet, tear, item, gone):
    """Return the first word that is wrong with the item behind those over gone; None if none is."""
    if not isinstance(item, tuple) or len(item) < 2:
        return "twine"
    if not all([is_knot(sheet, knot) for knot in item]):
        return "twine"
    bars = bars_along(sheet, item)
    if not all([bar in tear for bar in bars]):
        return "bar"
    if len(set(bars)) < len(bars) or any([bar in gone for bar in bars]):
        return "twice"
    if any([_is_bad_pass(sheet, tear, knot, one, other) for knot, one, other in passes_of(item, bars)]):
        return "straight"
    return None


def passes_of(twine, bars):
    """Return a triple of the knot and its two bars for each pass of the twine."""
    found = list(zip(twine[1:-1], bars, bars[1:]))
    if twine[0] == twine[-1]:
        found.append((twine[0], bars[-1], bars[0]))
    return found


def _is_bad_pass(sheet, tear, knot, one, other):
    """Tell whether the two bars go on straight at the knot while more lack there."""
    return are_opposite(sheet, one, other) and lacks(sheet, tear, knot) > 2
