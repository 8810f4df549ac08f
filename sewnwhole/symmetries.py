"""Symmetries of patterns, canonical forms, namings and kinds."""

from sewnwhole.cells import LETTERS, cell_key, halves, mirrored_cell, renamed_cell, turned_cell

TURNS = 4
SYMMETRIES = 8


def is_mirroring(symmetry):
    """Tell whether a symmetry mirrors patterns before it turns them."""
    return symmetry >= TURNS


def moved_rows(rows, symmetry):
    """Return the list of rows that a symmetry makes of rows, whose items are only moved."""
    moved = [row[::-1] for row in rows] if is_mirroring(symmetry) else list(rows)
    for _ in range(symmetry % TURNS):
        upended = moved[::-1]
        moved = list(zip(*upended))
    return moved


def moved_cell(cell, symmetry):
    """Return a cell as it is in what a symmetry makes of its pattern."""
    moved = mirrored_cell(cell) if is_mirroring(symmetry) else cell
    for _ in range(symmetry % TURNS):
        moved = turned_cell(moved)
    return moved


def transformed(pattern, symmetry):
    """Return the pattern that a symmetry makes of a pattern."""
    rows = moved_rows(pattern, symmetry)
    return tuple([tuple([moved_cell(cell, symmetry) for cell in row]) for row in rows])


def composed(first, second):
    """Return the symmetry that does what the first one and then the second one do."""
    # To mirror what has been turned is to mirror it first and then turn it the other way round.
    turns = second - first if is_mirroring(second) else second + first
    if is_mirroring(first) == is_mirroring(second):
        return turns % TURNS
    return turns % TURNS + TURNS


def inverse(symmetry):
    """Return the symmetry that undoes a symmetry."""
    # A mirroring symmetry mirrors at an axis, whatever it turns, so that it undoes itself.
    return symmetry if is_mirroring(symmetry) else -symmetry % TURNS


def pattern_key(pattern):
    """Return what patterns are ordered by: their rows, their columns, and then their cells."""
    widths = [len(row) for row in pattern]
    return len(pattern), widths, [[cell_key(cell) for cell in row] for row in pattern]


def all_transformed(pattern):
    """Return the list of what the eight symmetries make of a pattern, in their order."""
    return [transformed(pattern, symmetry) for symmetry in range(SYMMETRIES)]


def canonical(pattern):
    """Return the canonical form of a pattern, the least of its transformed patterns."""
    return min(all_transformed(pattern), key=pattern_key)


def symmetry_between(first, second):
    """Return the least symmetry that transforms the first pattern into the second one, or None."""
    for symmetry in range(SYMMETRIES):
        if transformed(first, symmetry) == second:
            return symmetry
    return None


def stabilizer(pattern):
    """Return the list of the symmetries that leave a pattern as it is, in ascending order."""
    return [symmetry for symmetry in range(SYMMETRIES) if transformed(pattern, symmetry) == pattern]


def renamed(pattern, names):
    """Return a pattern whose fabrics have the letters that a dict gives them."""
    return tuple([tuple([renamed_cell(cell, names) for cell in row]) for row in pattern])


def first_naming(pattern):
    """Return a pattern with its fabrics named a, b, c and so on in the order in which they occur."""
    names = {}
    for row in pattern:
        for cell in row:
            for fabric in halves(cell):
                if fabric not in names:
                    names[fabric] = LETTERS[len(names)]
    return renamed(pattern, names)


def kind_of(pattern):
    """Return the kind of a pattern, the least first naming of its transformed patterns."""
    return min([first_naming(moved) for moved in all_transformed(pattern)], key=pattern_key)
