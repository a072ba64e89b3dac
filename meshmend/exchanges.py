"""Exchanges: how one way to go round comes of another one."""

from meshmend.errors import BadExchange
from meshmend.patches import whole_behind
from meshmend.rings import joints_of
from meshmend.sheets import is_integer_within


def done(sheet, tear, turning, value):
    """Return the turning to which the exchanges lead; raise BadExchange if value is none such."""
    joined = joints_of(sheet, tear)
    if not isinstance(value, tuple):
        raise BadExchange(-1)
    reached = turning
    for number, item in enumerate(value):
        if not _is_exchange(item, len(turning)):
            raise BadExchange(number)
        reached = _exchanged(reached, item)
        if whole_behind(joined, reached) == 0:
            raise BadExchange(number)
    return reached


def exchanges(sheet, tear, one, other):
    """Return exchanges that lead from one whole turning to the other one, as few as can be."""
    joined = joints_of(sheet, tear)
    reached, found = one, []
    unlike = [number for number in range(len(one)) if one[number] != other[number]]
    # What the joints of a whole turning make one is joined as in a tree. If the
    # first unlike joint is taken out, one of the other tree joins both halves
    # again; if it is put in, one of the round that it closes is not in the other
    # tree. So there is always a second unlike crossing to exchange it with.
    while unlike:
        pairs = [(unlike[0], number) for number in unlike[1:]]
        pair = [both for both in pairs if whole_behind(joined, _exchanged(reached, both)) > 0][0]
        reached = _exchanged(reached, pair)
        found.append(pair)
        unlike = [number for number in unlike if number not in pair]
    return tuple(found)


def _is_exchange(value, many):
    """Tell whether value, of any kind, is a pair of ascending numbers of so many crossings."""
    if not isinstance(value, tuple) or len(value) != 2:
        return False
    one, other = value
    return is_integer_within(other, 0, many - 1) and is_integer_within(one, 0, other - 1)


def _exchanged(turning, pair):
    """Return the turning with 1 for 0 and 0 for 1 at both crossings."""
    return tuple([1 - turn if number in pair else turn for number, turn in enumerate(turning)])
