"""Tears: the bars that lack, and the holes that they make."""

from meshmend.sheets import bars_of, ends_of, is_bar, knots


def tear_error(sheet, value):
    """Return None for a tear, -1 for no tuple, or the number of the first wrong item."""
    if not isinstance(value, tuple):
        return -1
    ahead = -1
    for number, item in enumerate(value):
        if not is_bar(sheet, item) or item <= ahead:
            return number
        ahead = item
    return None


def lacking_at(sheet, tear, knot):
    """Return the ascending tuple of the bars that lack at the knot."""
    return tuple([bar for bar in bars_of(sheet, knot) if bar in tear])


def lacks(sheet, tear, knot):
    """Return how many bars lack at the knot."""
    return len(lacking_at(sheet, tear, knot))


def odd(sheet, tear):
    """Return the ascending tuple of the knots at which an odd number of bars lacks."""
    return tuple([knot for knot in knots(sheet) if lacks(sheet, tear, knot) % 2 == 1])


def lost(sheet, tear):
    """Return the ascending tuple of the knots all of whose bars lack."""
    return tuple([knot for knot in knots(sheet) if lacking_at(sheet, tear, knot) == bars_of(sheet, knot)])


def holes(sheet, tear):
    """Return the holes, each the ascending tuple of its bars, by their first bars."""
    group = {knot: number for number, knot in enumerate(knots(sheet))}
    for bar in tear:
        upper, lower = ends_of(sheet, bar)
        kept, given = group[upper], group[lower]
        group = {knot: (kept if number == given else number) for knot, number in group.items()}
    # The tear is ascending, and a dict keeps the order in which its keys came:
    # so the holes and their bars come in the order that is asked for.
    found = {}
    for bar in tear:
        upper, _ = ends_of(sheet, bar)
        found.setdefault(group[upper], []).append(bar)
    return tuple([tuple(hole) for hole in found.values()])
