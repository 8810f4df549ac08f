"""Patterns and their texts."""

from sewnwhole.cells import halves, is_cell
from sewnwhole.errors import TextError
from sewnwhole.limits import SIDE


def lines_of(text):
    """Return the list of the lines of a text."""
    lines = text.split("\n")
    if lines[-1] == "":
        lines.pop()
    return lines


def row_fault(words, rows):
    """Return the first fault of the words of a line that stands below faultless rows, or None."""
    if len(rows) >= SIDE:
        return "too many rows"
    if not all([is_cell(word) for word in words]):
        return "not a cell"
    if len(words) > SIDE:
        return "too many columns"
    if rows and len(words) != len(rows[0]):
        return "another length"
    return None


def read_pattern(text):
    """Return the pattern that a text tells; raise TextError for its first fault."""
    rows = []
    lines = lines_of(text)
    for number, line in enumerate(lines, start=1):
        words = line.split(" ")
        what = row_fault(words, rows)
        if what is not None:
            raise TextError(number, what)
        rows.append(tuple(words))
    if not rows:
        raise TextError(1, "no rows")
    return tuple(rows)


def format_pattern(pattern):
    """Return the text of a pattern."""
    return "".join([" ".join(row) + "\n" for row in pattern])


def half_cells(pattern):
    """Return the list of the pairs (fabric, number of half cells), in alphabetical order."""
    counts = {}
    for row in pattern:
        for cell in row:
            for fabric in halves(cell):
                counts[fabric] = counts.get(fabric, 0) + 1
    return [(fabric, counts[fabric]) for fabric in sorted(counts)]
