"""The fabric that patches need, with an allowance on every side, and the pieces that are cut from it."""

from sewnwhole.cells import halves, is_fabric
from sewnwhole.errors import FabricError
from sewnwhole.patches import fits, seam_length, sides


def check_fit(pattern, patches):
    """Raise FabricError if patches do not fit a pattern."""
    if not fits(pattern, patches):
        raise FabricError("patches do not fit")


def cell_of(pattern, patch):
    """Return the first cell of a patch; in a plain patch all of them are the same."""
    return pattern[patch[0]][patch[1]]


def plain_piece(patch, cell_size, allowance):
    """Return the pair (width, length) of the piece for a plain patch."""
    _, _, height, width = patch
    return width * cell_size + 2 * allowance, height * cell_size + 2 * allowance


def triangle_side(cell_size, allowance):
    """Return the side of the square that has the piece for a triangle as its half."""
    return cell_size + 3 * allowance


def areas_of_patch(pattern, patch, cell_size, allowance):
    """Return the list of the pairs (fabric, area) that a patch needs, with the area doubled."""
    cell = cell_of(pattern, patch)
    if is_fabric(cell):
        width, length = plain_piece(patch, cell_size, allowance)
        return [(cell, 2 * width * length)]
    side = triangle_side(cell_size, allowance)
    return [(fabric, side * side) for fabric in halves(cell)]


def added_areas(*lists):
    """Return the areas of fabrics that lists of pairs (fabric, area) add up to."""
    areas = {}
    for pairs in lists:
        for fabric, area in pairs:
            areas[fabric] = areas.get(fabric, 0) + area
    return [(fabric, areas[fabric]) for fabric in sorted(areas) if areas[fabric] != 0]


def fabric_needed(pattern, patches, cell_size, allowance):
    """Return the areas of fabrics that patches of a pattern need; raise FabricError."""
    check_fit(pattern, patches)
    lists = [areas_of_patch(pattern, patch, cell_size, allowance) for patch in patches]
    return added_areas(*lists)


def total_fabric(patches, cell_size, allowance):
    """Return the area that patches need altogether if all cells of their pattern are plain."""
    rows, columns = sides(patches)
    bare = 2 * rows * columns * cell_size * cell_size
    # Along each seam there is an allowance on both sides, along the border on one side.
    along_sides = 4 * allowance * cell_size * (seam_length(patches) + rows + columns)
    at_corners = 8 * allowance * allowance * len(patches)
    return bare + along_sides + at_corners


def pieces_of(pattern, patches, fabric, cell_size, allowance):
    """Return the list of the pieces (width, length) that patches of a pattern need of a fabric; raise FabricError."""
    check_fit(pattern, patches)
    cells = [cell_of(pattern, patch) for patch in patches]
    plain = [plain_piece(patch, cell_size, allowance) for patch, cell in zip(patches, cells) if cell == fabric]
    triangles = len([cell for cell in cells if not is_fabric(cell) and fabric in halves(cell)])
    side = triangle_side(cell_size, allowance)
    return plain + [(side, side)] * ((triangles + 1) // 2)
