"""Papers of trims: a trim with lots that show that none has fewer bars, or that there is none."""

from meshmend.errors import NoTrim
from meshmend.groups import parts
from meshmend.sheets import ends_of
from meshmend.tears import whole_bars
from meshmend.trims import fewest_bars, least_trim, ways_from, wrong


def trim_paper(sheet, tear, ends):
    """Return ("least", trim, lots), or ("never", lot) if there is no trim."""
    try:
        trim = least_trim(sheet, tear, ends)
    except NoTrim as error:
        return ("never", error.lot)
    amiss = wrong(sheet, tear, ends)
    ways = {knot: ways_from(sheet, tear, knot) for knot in amiss}
    joined = [ends_of(sheet, bar) for bar in whole_bars(sheet, tear)]
    lots = []
    for group in parts(amiss, [(one, other) for one in amiss for other in amiss if other in ways[one]]):
        lots.extend(_lots_of(ways, joined, group))
    return ("least", trim, tuple(lots))


def _lots_of(ways, joined, amiss):
    """Return lots for these wrong knots, all of which are joined over whole bars."""
    # A whole bar joins knots whose levels differ by one, as the knots are of
    # two kinds, in even and in odd rows, and each bar joins one of each. So it
    # leaves just one part: of the knots that lie as low as its lower end. Of a
    # least trim just one bar leaves each part without the root, and none leaves
    # one with it (Sebo 1990). So there are as many lots as it has bars, and an
    # odd number is wrong in each.
    root, levels = amiss[0], _levels(ways, amiss)
    lots = []
    for level in range(min(levels.values()), max(levels.values())):
        low = [knot for knot in sorted(levels) if levels[knot] <= level]
        within = [(one, other) for one, other in joined if one in low and other in low]
        lots.extend([tuple(part) for part in parts(low, within) if root not in part])
    return lots


def _levels(ways, amiss):
    """Return for each knot how many bars a least trim has if it takes the place of the root."""
    # If the knot is wrong itself, both are right then: it is joined with itself by no bar.
    root, others = amiss[0], amiss[1:]
    rest = {via: len(fewest_bars(ways, [knot for knot in others if knot != via])) for via in others}
    return {knot: min([len(ways[via][knot]) + rest[via] for via in others]) for knot in ways[root]}
