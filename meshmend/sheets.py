"""Sheets: their knots, and the bars that join these."""

from meshmend.bounds import MAX_SIDE


def is_integer_within(value, low, high):
    """Tell whether value is an integer (not True or False) from low to high."""
    if isinstance(value, bool) or not isinstance(value, int):
        return False
    return low <= value <= high


def sheet_error(value):
    """Return None for a sheet, otherwise "sheet", "deep" or "wide"."""
    if not isinstance(value, tuple) or len(value) != 2:
        return "sheet"
    deep, wide = value
    if not is_integer_within(deep, 1, MAX_SIDE):
        return "deep"
    if not is_integer_within(wide, 1, MAX_SIDE):
        return "wide"
    return None


def is_bar(sheet, value):
    """Tell whether value, of any kind, is a bar of the sheet."""
    return is_integer_within(value, 0, sheet[0] * sheet[1] - 1)


def is_knot(sheet, value):
    """Tell whether value, of any kind, is a knot of the sheet."""
    if not isinstance(value, tuple) or len(value) != 2:
        return False
    row, col = value
    if not is_integer_within(row, 0, sheet[0]) or not is_integer_within(col, 0, sheet[1]):
        return False
    return (row + col) % 2 == 0


def knots(sheet):
    """Return the ascending tuple of the knots."""
    deep, wide = sheet
    places = [(row, col) for row in range(deep + 1) for col in range(wide + 1)]
    return tuple([(row, col) for row, col in places if (row + col) % 2 == 0])


def ends_of(sheet, bar):
    """Return the upper and the lower knot that the bar joins."""
    row, col = divmod(bar, sheet[1])
    if (row + col) % 2 == 0:
        return ((row, col), (row + 1, col + 1))
    return ((row, col + 1), (row + 1, col))


def far_end(sheet, bar, knot):
    """Return the knot that the bar joins with this one of its ends."""
    upper, lower = ends_of(sheet, bar)
    return lower if knot == upper else upper


def bars_of(sheet, knot):
    """Return the ascending tuple of the bars at the knot."""
    deep, wide = sheet
    row, col = knot
    # The bar in each field that touches a knot has an end there, as the
    # corners with an even sum are the ones that a bar joins.
    fields = [(y, x) for y in (row - 1, row) for x in (col - 1, col)]
    return tuple([y * wide + x for y, x in fields if 0 <= y < deep and 0 <= x < wide])


def bar_between(sheet, one, other):
    """Return the bar that joins the two knots, or None."""
    if abs(one[0] - other[0]) != 1 or abs(one[1] - other[1]) != 1:
        return None
    return min(one[0], other[0]) * sheet[1] + min(one[1], other[1])


def are_opposite(sheet, one, other):
    """Tell whether the two unlike bars go on straight at a knot."""
    # Of two opposite bars the upper one stands a row of fields above the
    # lower one, so it has the lesser number.
    top, middle = ends_of(sheet, min(one, other))
    joint, bottom = ends_of(sheet, max(one, other))
    return middle == joint and middle[1] - top[1] == bottom[1] - joint[1]
