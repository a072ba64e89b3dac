"""Ends, trims and papers to test with, and what the document says of them.

As in tests.nets nothing of the package is used here.
"""

import itertools

from tests.nets import (
    SHEETS, all_bars, at_as_told, ends_as_told, is_knot_as_told, is_pair_of_integers, knots_as_told,
    odd_as_told, without,
)

SMALL = [sheet for sheet in SHEETS if sheet[0] * sheet[1] <= 8]
TWELVE = [sheet for sheet in SHEETS if 9 <= sheet[0] * sheet[1] <= 12]


def all_ends(sheet, tear):
    """() and all pairs of unlike knots, ascending, at which a bar lacks."""
    at = [knot for knot in knots_as_told(sheet) if at_as_told(sheet, tear, knot)]
    return [()] + list(itertools.combinations(at, 2))


def some_ends(sheet, tear, dice, many):
    pairs = all_ends(sheet, tear)[1:]
    odd_knots = odd_as_told(sheet, tear)
    found = [()] + dice.sample(pairs, min(many, len(pairs)))
    return found + list(itertools.combinations(odd_knots, 2))[:many]


def wrong_as_told(sheet, tear, ends):
    odd_knots = odd_as_told(sheet, tear)
    found = [knot for knot in odd_knots if knot not in ends]
    found += [knot for knot in ends if knot not in odd_knots]
    return tuple(sorted(found))


def is_trim(sheet, tear, ends, value):
    """Whether the value is a trim, in the words of the document."""
    if type(value) is not tuple or [type(bar) for bar in value] != [int] * len(value):
        return False
    if list(value) != sorted(set(value)) or not set(value) <= set(all_bars(sheet)) - set(tear):
        return False
    return odd_as_told(sheet, tear + value) == tuple(sorted(ends))


def lots_as_told(sheet, tear):
    """All knots that are joined with one another over whole bars, by their first knots."""
    left, found = knots_as_told(sheet), []
    whole = [ends_as_told(sheet, bar) for bar in without(all_bars(sheet), tear)]
    while left:
        lot = [left[0]]
        for knot in lot:
            lot.extend({end for ends in whole if knot in ends for end in ends} - set(lot))
        left = [knot for knot in left if knot not in lot]
        found.append(tuple(sorted(lot)))
    return found


def odd_lots_as_told(sheet, tear, amiss):
    return [lot for lot in lots_as_told(sheet, tear) if len(set(lot) & set(amiss)) % 2]


def trims_by_size(sheet):
    """All lots of bars, as masks, by the mask of the knots that they make odd; the small ones first."""
    numbers = {knot: number for number, knot in enumerate(knots_as_told(sheet))}
    masks = [sum(1 << numbers[end] for end in ends_as_told(sheet, bar)) for bar in all_bars(sheet)]
    table = {}
    for mask in sorted(range(2 ** len(masks)), key=lambda mask: bin(mask).count("1")):
        turned = 0
        for bar, ends in enumerate(masks):
            if mask >> bar & 1:
                turned ^= ends
        table.setdefault(turned, []).append(mask)
    return numbers, table


def least_of_all_lots(tables, tear, amiss):
    """The least number of whole bars that make just these knots odd; None if none do."""
    numbers, table = tables
    lacking = sum(1 << bar for bar in tear)
    for mask in table.get(sum(1 << numbers[knot] for knot in amiss), []):
        if not mask & lacking:
            return bin(mask).count("1")
    return None


def steps_between(sheet, tear):
    """The lengths of the shortest ways over whole bars between all knots."""
    all_knots = knots_as_told(sheet)
    steps = {(one, other): 0 if one == other else 10 ** 6 for one in all_knots for other in all_knots}
    for bar in without(all_bars(sheet), tear):
        upper, lower = ends_as_told(sheet, bar)
        steps[upper, lower] = steps[lower, upper] = 1
    for mid in all_knots:
        for one in all_knots:
            if steps[one, mid] < 10 ** 6:
                for other in all_knots:
                    steps[one, other] = min(steps[one, other], steps[one, mid] + steps[mid, other])
    return steps


def least_sum(steps, amiss):
    """The least sum of steps that join the knots two by two; None if they cannot be joined."""
    sums = {0: 0}
    for mask in range(1, 2 ** len(amiss)):
        if bin(mask).count("1") % 2 == 0:
            at = [number for number in range(len(amiss)) if mask >> number & 1]
            sums[mask] = min(
                steps[amiss[at[0]], amiss[other]] + sums[mask - (1 << at[0]) - (1 << other)]
                for other in at[1:]
            )
    total = sums[2 ** len(amiss) - 1]
    return total if total < 10 ** 6 else None


def is_lot(sheet, value):
    if type(value) is not tuple:
        return False
    if not all(is_pair_of_integers(knot) and is_knot_as_told(sheet, *knot) for knot in value):
        return False
    return list(value) == sorted(set(value))


def first_no_whole_bar(sheet, tear, value):
    """The number of the first item that is no whole bar or not greater than the one ahead; None."""
    whole = without(all_bars(sheet), tear)
    for number, item in enumerate(value):
        if type(item) is not int or item not in whole:
            return number
        if number > 0 and item <= value[number - 1]:
            return number
    return None


def told_of_lots(sheet, tear, amiss, lots, most):
    for number, lot in enumerate(lots):
        if not is_lot(sheet, lot) or len(set(lot) & set(amiss)) % 2 == 0:
            return ("lot", number)
    for bar in without(all_bars(sheet), tear):
        left = [lot for lot in lots if len(set(lot) & set(ends_as_told(sheet, bar))) == 1]
        if len(left) > most:
            return ("leaves", bar)
    return None


def told_of_paper(sheet, tear, ends, value):
    """The word that lets_trim returns of the value, or the pair that it raises."""
    amiss = wrong_as_told(sheet, tear, ends)
    kinds = [type(item) for item in value] if type(value) is tuple else None
    if kinds == [str, tuple] and value[0] == "never":
        return told_of_lots(sheet, tear, amiss, value[1:], 0) or "never"
    if kinds != [str, tuple, tuple] or value[0] != "least":
        return ("shape", -1)
    number = first_no_whole_bar(sheet, tear, value[1])
    if number is not None:
        return ("trim", number)
    if not is_trim(sheet, tear, ends, value[1]):
        return ("even", -1)
    if len(value[2]) != len(value[1]):
        return ("lots", -1)
    return told_of_lots(sheet, tear, amiss, value[2], 1) or "least"
