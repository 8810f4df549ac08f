"""Blocks and layouts, the decomposition of patterns, repeats and tilings."""

from sewnwhole.errors import LayoutError
from sewnwhole.limits import SIDE
from sewnwhole.patterns import size_of
from sewnwhole.symmetries import canonical, composed, moved_rows, symmetry_between, transformed


def check_size(pattern):
    """Raise LayoutError if a pattern has too many rows or columns."""
    rows, columns = size_of(pattern)
    if rows > SIDE or columns > SIDE:
        raise LayoutError("too large")


def side_by_side(patterns):
    """Return the list of the rows of patterns of the same height that lie side by side."""
    return [tuple([cell for part in parts for cell in part]) for parts in zip(*patterns)]


def arranged(blocks, layout):
    """Return the pattern that blocks and a layout are arranged to; raise LayoutError."""
    rows = []
    for entries in layout:
        rows.extend(side_by_side([transformed(blocks[block], symmetry) for block, symmetry in entries]))
    check_size(rows)
    return tuple(rows)


def transformed_layout(layout, symmetry):
    """Return the layout that makes the transformed pattern, with whatever blocks."""
    rows = moved_rows(layout, symmetry)
    return tuple([tuple([(block, composed(own, symmetry)) for block, own in row]) for row in rows])


def divides(size, many):
    """Tell whether so many rows or columns can be cut into parts of a size."""
    return size > 0 and many % size == 0


def squares_of(pattern, size):
    """Return the list of rows of the squares of a size that a pattern is cut into."""
    rows, columns = size_of(pattern)
    return [
        [tuple([row[left:left + size] for row in pattern[top:top + size]]) for left in range(0, columns, size)]
        for top in range(0, rows, size)
    ]


def decomposed(pattern, size):
    """Return the pair (blocks, layout) that a pattern is decomposed into; raise LayoutError."""
    rows, columns = size_of(pattern)
    if not divides(size, rows) or not divides(size, columns):
        raise LayoutError("size does not divide")
    numbers = {}
    layout = []
    for squares in squares_of(pattern, size):
        entries = []
        for square in squares:
            form = canonical(square)
            number = numbers.setdefault(form, len(numbers))
            entries.append((number, symmetry_between(form, square)))
        layout.append(tuple(entries))
    return tuple(list(numbers)), tuple(layout)


def least_repeat(lines):
    """Return the least number that divides that of the lines, which are equal at this distance."""
    for many in range(1, len(lines)):
        if divides(many, len(lines)) and lines[many:] == lines[:-many]:
            return many
    return len(lines)


def repeat_of(pattern):
    """Return the repeat of a pattern, the pair (rows, columns)."""
    columns = list(zip(*pattern))
    return least_repeat(pattern), least_repeat(columns)


def unit_of(pattern):
    """Return the unit of a pattern, its first rows and columns that are repeated."""
    rows, columns = repeat_of(pattern)
    return tuple([row[:columns] for row in pattern[:rows]])


def tiled(pattern, down, across):
    """Return a pattern repeated so many times downwards and to the right; raise LayoutError."""
    rows = [row * across for row in pattern] * down
    check_size(rows)
    return tuple(rows)
