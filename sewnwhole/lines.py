"""Rectangles in a rectangle, and the straight lines through them."""

from sewnwhole.seams import HORIZONTAL, VERTICAL


def rectangles_in(whole):
    """Return the list of all rectangles in a rectangle, each of them behind all that lie in it."""
    top, left, height, width = whole
    return [
        (row, column, many, wide)
        for many in range(1, height + 1)
        for wide in range(1, width + 1)
        for row in range(top, top + height - many + 1)
        for column in range(left, left + width - wide + 1)
    ]


def lines_through(rectangle):
    """Return the list of the lines that cut a rectangle into two, told and ordered as straight seams are."""
    top, left, height, width = rectangle
    vertical = [(VERTICAL, position) for position in range(left + 1, left + width)]
    horizontal = [(HORIZONTAL, position) for position in range(top + 1, top + height)]
    return vertical + horizontal


def parts_of(rectangle, line):
    """Return the pair of the rectangles that a line cuts a rectangle into."""
    top, left, height, width = rectangle
    direction, position = line
    if direction == VERTICAL:
        before = position - left
        return (top, left, height, before), (top, position, height, width - before)
    before = position - top
    return (top, left, before, width), (position, left, height - before, width)
