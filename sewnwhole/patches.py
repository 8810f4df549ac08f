"""Patches: which rectangles are patches, how they lie, and which of them fit a pattern."""

from sewnwhole.cells import is_fabric
from sewnwhole.errors import PatchError
from sewnwhole.limits import SIDE
from sewnwhole.patterns import size_of
from sewnwhole.symmetries import TURNS, is_mirroring


def cells_of(patch):
    """Return the list of the pairs (row, column) of the cells of a patch, row by row."""
    top, left, height, width = patch
    return [(row, column) for row in range(top, top + height) for column in range(left, left + width)]


def area_of(patch):
    """Return the number of the cells of a patch."""
    return patch[2] * patch[3]


def common(one, other):
    """Return how many rows and how many columns two patches have in common.

    The number is 0 where one of them ends just where the other one begins, and less where there is a gap.
    """
    top, left, height, width = one
    other_top, other_left, other_height, other_width = other
    rows = min(top + height, other_top + other_height) - max(top, other_top)
    columns = min(left + width, other_left + other_width) - max(left, other_left)
    return rows, columns


def overlap(one, other):
    """Tell whether two rectangles have a cell in common."""
    rows, columns = common(one, other)
    return rows > 0 and columns > 0


def is_outside(patch):
    """Tell whether a rectangle goes beyond the rows and columns that patches may have."""
    top, left, height, width = patch
    return min(top, left) < 0 or max(top + height, left + width) > SIDE


def fault_at(rows, place):
    """Return the first fault of one of several rectangles, or None; those before it have none."""
    patch = rows[place]
    if min(patch[2], patch[3]) < 1:
        return "empty"
    if is_outside(patch):
        return "outside"
    if any([overlap(patch, earlier) for earlier in rows[:place]]):
        return "overlaps an earlier one"
    return None


def check_patches(rows):
    """Raise PatchError for the first fault of a list of rectangles, if they are no patches."""
    for place in range(len(rows)):
        what = fault_at(rows, place)
        if what is not None:
            raise PatchError(what, place)
    if not rows:
        raise PatchError("no patches", -1)
    height, width = sides(rows)
    if sum([area_of(patch) for patch in rows]) < height * width:
        raise PatchError("gap", -1)


def sides(patches):
    """Return the pair of the numbers of rows and columns of patches."""
    bottoms = [patch[0] + patch[2] for patch in patches]
    rights = [patch[1] + patch[3] for patch in patches]
    return max(bottoms, default=0), max(rights, default=0)


def covered(patches):
    """Return the least rectangle in which all of several patches lie."""
    top = min([patch[0] for patch in patches], default=0)
    left = min([patch[1] for patch in patches], default=0)
    bottom, right = sides(patches)
    return top, left, bottom - top, right - left


def can_be_cut(pattern, patch):
    """Tell whether a patch of a pattern is a single cell, or plain and of one fabric."""
    cells = [pattern[row][column] for row, column in cells_of(patch)]
    return len(cells) == 1 or (is_fabric(cells[0]) and all([cell == cells[0] for cell in cells]))


def fits(pattern, patches):
    """Tell whether patches fit a pattern."""
    return sides(patches) == size_of(pattern) and all([can_be_cut(pattern, patch) for patch in patches])


def strips_of_row(row, top):
    """Return the list of the row strips of a row."""
    starts = [column for column in range(len(row))
              if column == 0 or row[column] != row[column - 1] or not is_fabric(row[column])]
    ends = starts[1:] + [len(row)]
    return [(top, start, 1, end - start) for start, end in zip(starts, ends)]


def row_strips(pattern):
    """Return the row strips of a pattern."""
    return tuple([strip for top, row in enumerate(pattern) for strip in strips_of_row(row, top)])


def merged_strips(pattern):
    """Return the merged strips of a pattern."""
    patches = []
    # What a strip has to have to extend a plain patch, and the number of this patch.
    extended = {}
    for strip in row_strips(pattern):
        top, left, height, width = strip
        cell = pattern[top][left]
        number = extended.get((top, left, width, cell))
        if number is None:
            number = len(patches)
            patches.append(strip)
        else:
            above = patches[number]
            patches[number] = (above[0], left, above[2] + height, width)
        if is_fabric(cell):
            extended[(top + height, left, width, cell)] = number
    return tuple(patches)


def side_in_common(one, other):
    """Return the length of the part of a side that two patches have in common, 0 if there is none."""
    rows, columns = common(one, other)
    if columns == 0:
        return max(0, rows)
    if rows == 0:
        return max(0, columns)
    return 0


def neighbors(patches):
    """Return the list of the triples (first, second, length) of neighbors, in lexicographic order."""
    found = []
    for first in range(len(patches)):
        for second in range(first + 1, len(patches)):
            length = side_in_common(patches[first], patches[second])
            if length > 0:
                found.append((first, second, length))
    return found


def seam_length(patches):
    """Return the sum of the lengths that neighbors have in common."""
    return sum([triple[2] for triple in neighbors(patches)])


def mirrored_patch(patch, columns):
    """Return a patch of so many columns with left and right exchanged."""
    top, left, height, width = patch
    return top, columns - left - width, height, width


def turned_patch(patch, rows):
    """Return a patch of so many rows as it lies behind a clockwise quarter turn."""
    top, left, height, width = patch
    return left, rows - top - height, width, height


def transformed_patches(patches, symmetry):
    """Return patches, in their order, as they lie when a symmetry transforms their rectangle."""
    rows, columns = sides(patches)
    moved = list(patches)
    if is_mirroring(symmetry):
        moved = [mirrored_patch(patch, columns) for patch in moved]
    for _ in range(symmetry % TURNS):
        moved = [turned_patch(patch, rows) for patch in moved]
        rows, columns = columns, rows
    return tuple(moved)
