"""Trims: the bars to cut as well, so that one twine does."""

from meshmend.bounds import MAX_WRONG
from meshmend.errors import NoTrim, NotOne, TooMany
from meshmend.sheets import bars_of, far_end
from meshmend.tears import holes, odd


def need_one_hole(sheet, tear):
    """Raise NotOne if the tear is not one hole."""
    many = len(holes(sheet, tear))
    if many != 1:
        raise NotOne(many)


def wrong(sheet, tear, ends):
    """Return the ascending tuple of the wrong knots."""
    need_one_hole(sheet, tear)
    return tuple(sorted(set(odd(sheet, tear)) ^ set(ends)))


def least_trim(sheet, tear, ends):
    """Return a trim with the fewest bars."""
    amiss = wrong(sheet, tear, ends)
    _need_few(amiss)
    ways = {knot: ways_from(sheet, tear, knot) for knot in amiss}
    lots = _odd_lots(ways)
    if lots:
        raise NoTrim(min(lots))
    return tuple(sorted(fewest_bars(ways, amiss)))


def easiest(sheet, tear):
    """Return the least number of bars of a trim, for no ends or two odd knots, and these ends."""
    need_one_hole(sheet, tear)
    amiss = odd(sheet, tear)
    _need_few(amiss)
    ways = {knot: ways_from(sheet, tear, knot) for knot in amiss}
    best = None
    for ends in [()] + [(one, other) for one in amiss for other in amiss if one < other]:
        bars = fewest_bars(ways, [knot for knot in amiss if knot not in ends])
        if bars is not None and (best is None or len(bars) < best[0]):
            best = (len(bars), ends)
    return best


def _need_few(amiss):
    """Raise TooMany if there are more knots than the bound allows."""
    if len(amiss) > MAX_WRONG:
        raise TooMany(len(amiss))


def ways_from(sheet, tear, start):
    """Return a dict with a shortest way of whole bars to each knot that start is joined with."""
    ways = {start: ()}
    front = [start]
    while front:
        further = []
        for knot in list(front):
            for bar in bars_of(sheet, knot):
                far = far_end(sheet, bar, knot)
                if bar not in tear and far not in ways:
                    ways[far] = ways[knot] + (bar,)
                    further.append(far)
        front = further
    return ways


def _odd_lots(ways):
    """Return the lots of knots joined over whole bars that hold an odd number of those in ways."""
    lots = [tuple(sorted(ways[knot])) for knot in ways]
    return [lot for lot in lots if len([knot for knot in lot if knot in ways]) % 2 == 1]


def fewest_bars(ways, amiss):
    """Return the fewest bars that join the knots two by two; None if none do."""
    # Each trim holds ways that join the wrong knots two by two, so none has
    # fewer bars. No two of the ways that are taken have a bar in common:
    # without it the knots would be joined two by two as well, by fewer bars.
    if not amiss:
        return ()
    first, best = amiss[0], None
    for other in amiss[1:]:
        if other in ways[first]:
            rest = fewest_bars(ways, [knot for knot in amiss[1:] if knot != other])
            if rest is not None and (best is None or len(ways[first][other]) + len(rest) < len(best)):
                best = ways[first][other] + rest
    return best
