"""The checker of papers of trims."""

from meshmend.errors import NoPaper
from meshmend.sheets import ends_of, is_knot
from meshmend.tears import bars_error, odd, whole_bars
from meshmend.trims import wrong


def lets_trim(sheet, tear, ends, value):
    """Return the word of the paper, "least" or "never"; raise NoPaper if value is none."""
    amiss = wrong(sheet, tear, ends)
    if _is_never(value):
        _check_lots(sheet, tear, amiss, (value[1],), 0)
        return "never"
    if not _is_least(value):
        raise NoPaper("shape", -1)
    _, trim, lots = value
    _check_trim(sheet, tear, amiss, trim)
    if len(lots) != len(trim):
        raise NoPaper("lots", -1)
    _check_lots(sheet, tear, amiss, lots, 1)
    return "least"


def _is_never(value):
    """Tell whether value is a tuple of "never" and a tuple."""
    return isinstance(value, tuple) and len(value) == 2 and value[0] == "never" and isinstance(value[1], tuple)


def _is_least(value):
    """Tell whether value is a tuple of "least" and two tuples."""
    if not isinstance(value, tuple) or len(value) != 3 or value[0] != "least":
        return False
    return isinstance(value[1], tuple) and isinstance(value[2], tuple)


def _check_trim(sheet, tear, amiss, trim):
    """Raise NoPaper if the tuple is no trim that puts these wrong knots right."""
    number = bars_error(sheet, tear, trim)
    if number is not None:
        raise NoPaper("trim", number)
    if odd(sheet, trim) != amiss:
        raise NoPaper("even", -1)


def _check_lots(sheet, tear, amiss, lots, most):
    """Raise NoPaper if one is no lot or not odd, or if a whole bar leaves more than most of them."""
    for number, lot in enumerate(lots):
        if not _is_lot(sheet, lot) or len([knot for knot in amiss if knot in lot]) % 2 == 0:
            raise NoPaper("lot", number)
    for bar in whole_bars(sheet, tear):
        upper, lower = ends_of(sheet, bar)
        if len([lot for lot in lots if (upper in lot) != (lower in lot)]) > most:
            raise NoPaper("leaves", bar)


def _is_lot(sheet, value):
    """Tell whether value is an ascending tuple of knots."""
    if not isinstance(value, tuple) or not all([is_knot(sheet, knot) for knot in value]):
        return False
    return all([one < other for one, other in zip(value, value[1:])])
