"""Edges: to cut a net to shape, spread evenly."""

from meshmend.bounds import MAX_EDGE
from meshmend.errors import NoEdge

LETTERS = ("N", "T", "B")
STEPS = {"N": (2, 0), "T": (0, 2), "B": (1, 1)}


def edge_error(value):
    """Return None for an edge, -1 for no string, or the number of the first sign that cannot stand."""
    if not isinstance(value, str):
        return -1
    for number, sign in enumerate(value):
        if number == MAX_EDGE or sign not in LETTERS:
            return number
    return None if value else 0


def fall(edge):
    """Return how many steps down and how many aside the edge goes."""
    return (sum([STEPS[letter][0] for letter in edge]), sum([STEPS[letter][1] for letter in edge]))


def even_edge(down, aside):
    """Return the evenly spread edge that goes so many steps; raise NoEdge if there is none."""
    if min(down, aside) < 0 or (down + aside) % 2 == 1 or down + aside == 0:
        raise NoEdge()
    many, others = (down + aside) // 2, abs(down - aside) // 2
    letter = "N" if down > aside else "T"
    return "".join([letter if _grows(number, others, many) else "B" for number in range(many)])


def _grows(number, share, many):
    """Tell whether the part of the share that is due is greater behind the number than ahead of it."""
    return (number + 1) * share // many > number * share // many


def is_even(edge):
    """Tell whether stretches of the same length have each letter equally often, or once more."""
    return all([_is_even_in(edge, letter) for letter in LETTERS])


def _is_even_in(edge, letter):
    """Tell whether stretches of the same length have this letter equally often, or once more."""
    counts = [0]
    for sign in edge:
        counts.append(counts[-1] + (1 if sign == letter else 0))
    for size in range(1, len(edge)):
        found = [behind - ahead for ahead, behind in zip(counts, counts[size:])]
        if max(found) - min(found) > 1:
            return False
    return True


def round_of(edge):
    """Return the shortest string of which the edge is made by writing it once or several times."""
    for size in range(1, len(edge)):
        if edge[:size] * (len(edge) // size) == edge:
            return edge[:size]
    return edge


def takings(one, other):
    """Return how many meshes of the greater number are taken to each one of the lesser number."""
    lesser, greater = min(one, other), max(one, other)
    return tuple([(k + 1) * greater // lesser - k * greater // lesser for k in range(lesser)])
