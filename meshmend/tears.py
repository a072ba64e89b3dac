"""Tears: the bars that lack, and the holes that they make."""

from meshmend.groups import by_number, grouped
from meshmend.sheets import bars_of, ends_of, is_bar, knots


def tear_error(sheet, value):
    """Return None for a tear, -1 for no tuple, or the number of the first wrong item."""
    return bars_error(sheet, (), value)


def bars_error(sheet, taken, value):
    """Return None for an ascending tuple of bars without the taken ones, otherwise as tear_error."""
    if not isinstance(value, tuple):
        return -1
    ahead = -1
    for number, item in enumerate(value):
        if not is_bar(sheet, item) or item in taken or item <= ahead:
            return number
        ahead = item
    return None


def lacking_at(sheet, tear, knot):
    """Return the ascending tuple of the bars that lack at the knot."""
    return tuple([bar for bar in bars_of(sheet, knot) if bar in tear])


def whole_bars(sheet, tear):
    """Return the ascending tuple of the bars that are whole."""
    deep, wide = sheet
    return tuple([bar for bar in range(deep * wide) if bar not in tear])


def lacks(sheet, tear, knot):
    """Return how many bars lack at the knot."""
    return len(lacking_at(sheet, tear, knot))


def odd(sheet, tear):
    """Return the ascending tuple of the knots at which an odd number of bars lacks."""
    return tuple([knot for knot in knots(sheet) if lacks(sheet, tear, knot) % 2 == 1])


def lost(sheet, tear):
    """Return the ascending tuple of the knots all of whose bars lack."""
    return tuple([knot for knot in knots(sheet) if lacking_at(sheet, tear, knot) == bars_of(sheet, knot)])


def holes(sheet, tear):
    """Return the holes, each the ascending tuple of its bars, by their first bars."""
    group = grouped(knots(sheet), [ends_of(sheet, bar) for bar in tear])
    numbers = {bar: group[ends_of(sheet, bar)[0]] for bar in tear}
    return tuple([tuple(hole) for hole in by_number(numbers)])
