"""Patches: what the bars that lack part the plane into, and how turnings join them."""

from meshmend.groups import grouped, ways_to_join
from meshmend.tears import whole_bars


def patch_joints(sheet, tear, crossings):
    """Return a pair: some patches, and for each crossing two of these and the turn that joins them.

    A crossing lies amid four patches. The turn 0 makes one of those on its left
    and right, the turn 1 of those above and below. Patches are of two kinds, as
    kinds change at each step over a bar that lacks, so a turn joins two of one
    kind. The patches that are told are all those of the outermost one's kind.
    """
    patch = _patches(sheet, tear)
    around = [_around(patch, knot) for knot in crossings]
    kind = grouped(sorted(set(list(patch.values()))), [pair for pairs in around for pair in pairs])
    outermost = kind[patch[0, 1]]
    joints = [(sides, 0) if kind[sides[0]] == outermost else (heights, 1) for sides, heights in around]
    return ([number for number in kind if kind[number] == outermost], joints)


def _patches(sheet, tear):
    """Return a dict with the number of the patch of each place that is no knot."""
    deep, wide = sheet
    places = [(row, col) for row in range(deep + 1) for col in range(wide + 1) if (row + col) % 2 == 1]
    # Nothing parts the places on the border, as beyond the sheet there are no
    # bars, nor the two in the corners of a field whose bar is whole: this bar
    # does not lack, and it goes from the one knot there to the other one.
    border = [(row, col) for row, col in places if row in (0, deep) or col in (0, wide)]
    pairs = [(border[0], place) for place in border]
    for bar in whole_bars(sheet, tear):
        row, col = divmod(bar, wide)
        corners = [(row, col), (row, col + 1), (row + 1, col), (row + 1, col + 1)]
        one, other = [corner for corner in corners if corner in places]
        pairs.append((one, other))
    return grouped(places, pairs)


def _around(patch, knot):
    """Return the patches on the left and right of the knot, and those above and below it."""
    row, col = knot
    return ((patch[row, col - 1], patch[row, col + 1]), (patch[row - 1, col], patch[row + 1, col]))


def whole_behind(joined, ahead):
    """Return how many whole turnings begin with the turns ahead; joined as of patch_joints."""
    # A turning makes one ring if all patches of a kind become one by it, and if
    # none of their joints is to spare: such a one would close a round of
    # patches, within which there is another ring.
    patches, joints = joined
    taken = [pair for (pair, turn), chosen in zip(joints, ahead) if turn == chosen]
    group = grouped(patches, taken)
    numbers = sorted(set(list(group.values())))
    if len(numbers) != len(patches) - len(taken):
        return 0
    free = [(group[one], group[other]) for (one, other), _ in joints[len(ahead):]]
    return ways_to_join(numbers, free)
