"""Pictures of patches."""

from sewnwhole.errors import PatchError, TextError
from sewnwhole.limits import NAMES
from sewnwhole.patches import area_of, cells_of, sides
from sewnwhole.patterns import check_rows, lines_of

PATCH_NAMES = "ABCDEFGHIJKLMNOPQRSTUVWXYZabcdefghijklmnopqrstuvwxyz"


def is_name(sign):
    """Tell whether a character is the name of a patch."""
    return sign in PATCH_NAMES


def picture(patches):
    """Return the picture of patches; raise PatchError if they are too many."""
    if len(patches) > NAMES:
        raise PatchError("too many patches", -1)
    rows, columns = sides(patches)
    grid = [[""] * columns for _ in range(rows)]
    # A patch occurs first where its first row and column are, so that sorted they are in the order of their names.
    for name, patch in zip(PATCH_NAMES, sorted(patches)):
        for row, column in cells_of(patch):
            grid[row][column] = name
    return "".join(["".join(line) + "\n" for line in grid])


def patch_of(cells):
    """Return the patch that has just the given cells; raise TextError if they are no rectangle."""
    rows = [row for row, _ in cells]
    columns = [column for _, column in cells]
    top, left = min(rows), min(columns)
    patch = (top, left, max(rows) - top + 1, max(columns) - left + 1)
    if len(cells) < area_of(patch):
        raise TextError(top + 1, "not a rectangle")
    return patch


def read_picture(text):
    """Return the patches that a text tells; raise TextError for its first fault."""
    lines = lines_of(text)
    check_rows(lines, is_name, "not a name")
    cells = {}
    for row, line in enumerate(lines):
        for column, name in enumerate(line):
            cells.setdefault(name, []).append((row, column))
    return tuple([patch_of(cells[name]) for name in cells])
