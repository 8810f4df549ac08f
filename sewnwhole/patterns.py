"""Patterns and their texts, and what the texts of patterns and of pictures have in common."""

from sewnwhole.cells import halves, is_cell
from sewnwhole.errors import TextError
from sewnwhole.limits import SIDE


def lines_of(text):
    """Return the list of the lines of a text."""
    lines = text.split("\n")
    if lines[-1] == "":
        lines.pop()
    return lines


def row_fault(rows, index, is_item, fault):
    """Return the first fault of one of several rows, or None; the rows above it have none."""
    row = rows[index]
    if index >= SIDE:
        return "too many rows"
    if not row or not all([is_item(item) for item in row]):
        return fault
    if len(row) > SIDE:
        return "too many columns"
    if len(row) != len(rows[0]):
        return "another length"
    return None


def check_rows(rows, is_item, fault):
    """Raise TextError for the first fault of the rows of a text; one with a wrong item has the given fault."""
    for index in range(len(rows)):
        what = row_fault(rows, index, is_item, fault)
        if what is not None:
            raise TextError(index + 1, what)
    if not rows:
        raise TextError(1, "no rows")


def read_pattern(text):
    """Return the pattern that a text tells; raise TextError for its first fault."""
    rows = [line.split(" ") for line in lines_of(text)]
    check_rows(rows, is_cell, "not a cell")
    return tuple([tuple(row) for row in rows])


def format_pattern(pattern):
    """Return the text of a pattern."""
    return "".join([" ".join(row) + "\n" for row in pattern])


def half_cells(pattern):
    """Return the list of the pairs (fabric, number of half cells), in alphabetical order."""
    counts = {}
    for row in pattern:
        for cell in row:
            for fabric in halves(cell):
                counts[fabric] = counts.get(fabric, 0) + 1
    return [(fabric, counts[fabric]) for fabric in sorted(counts)]


def size_of(pattern):
    """Return the pair of the numbers of rows and columns of a pattern."""
    return len(pattern), max([len(row) for row in pattern], default=0)
