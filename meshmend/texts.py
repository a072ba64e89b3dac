"""Texts: a sheet with a tear, a sign for each bar."""

from meshmend.bounds import MAX_SIDE
from meshmend.errors import BadText

LACKING = "."


def net_text(sheet, tear):
    """Return the text of the sheet with the tear."""
    deep, wide = sheet
    lines = [[_sign(tear, wide, row, col) for col in range(wide)] for row in range(deep)]
    return "".join(["".join(line) + "\n" for line in lines])


def _sign(tear, wide, row, col):
    """Return the sign of the bar in this field."""
    return LACKING if row * wide + col in tear else _whole_sign(row, col)


def _whole_sign(row, col):
    """Return the sign of a whole bar in this field."""
    return "\\" if (row + col) % 2 == 0 else "/"


def read_net(value):
    """Return the sheet and the tear with this text; raise BadText if it is none."""
    if not isinstance(value, str):
        raise BadText(-1, -1)
    lines = [""]
    for sign in value:
        if not _can_stand(sign, lines):
            raise BadText(len(lines) - 1, len(lines[-1]))
        if sign == "\n":
            lines.append("")
        else:
            lines[-1] = lines[-1] + sign
    # Behind the last line feed an empty line has begun.
    deep, wide = len(lines) - 1, len(lines[0])
    if deep == 0 or lines[-1]:
        raise BadText(deep, len(lines[-1]))
    signs = "".join(lines)
    return ((deep, wide), tuple([bar for bar, sign in enumerate(signs) if sign == LACKING]))


def _can_stand(sign, lines):
    """Tell whether the sign can stand behind the lines, the last of which has just begun."""
    row, col = len(lines) - 1, len(lines[-1])
    if row == MAX_SIDE:
        return False
    if sign == "\n":
        return col > 0 and col == len(lines[0])
    most = MAX_SIDE if row == 0 else len(lines[0])
    return col < most and sign in (LACKING, _whole_sign(row, col))
