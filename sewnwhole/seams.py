"""Straight seams, whether patches can be sewn by them, and full sides in common."""

VERTICAL = "|"
HORIZONTAL = "-"
DIRECTIONS = ("|", "-")


def span(patch, direction):
    """Return the pair (start, end) of the columns of a patch for a vertical seam, else of its rows.

    The end is the column or the row behind the last one of the patch.
    """
    axis = 1 if direction == VERTICAL else 0
    return patch[axis], patch[axis] + patch[axis + 2]


def crosses(patch, direction, position):
    """Tell whether a patch lies on both sides of a line, which is told as a straight seam is."""
    start, end = span(patch, direction)
    return start < position < end


def positions(patches, direction):
    """Return the list of the positions of the straight seams of a direction, ascending."""
    spans = [span(patch, direction) for patch in patches]
    starts = sorted({pair[0] for pair in spans})
    # Patches begin behind each straight seam, and the first start of all has none before it.
    return [at for at in starts[1:] if all([end <= at or start >= at for start, end in spans])]


def straight_seams(patches):
    """Return the list of the straight seams of patches that cover a rectangle, in order."""
    vertical = [(VERTICAL, position) for position in positions(patches, VERTICAL)]
    horizontal = [(HORIZONTAL, position) for position in positions(patches, HORIZONTAL)]
    return vertical + horizontal


def split(patches, seam):
    """Return the pair of the lists of the numbers of the patches of both parts of a straight seam."""
    direction, position = seam
    starts = [span(patch, direction)[0] for patch in patches]
    first = [number for number, start in enumerate(starts) if start < position]
    second = [number for number, start in enumerate(starts) if start >= position]
    return first, second


def chosen(patches, numbers):
    """Return the patches with the given numbers, in the order of these."""
    return tuple([patches[number] for number in numbers])


def parted(patches, numbers, seam):
    """Return the pair of the lists of those of the given numbers whose patches are in either part of a seam."""
    first, second = split(chosen(patches, numbers), seam)
    return [numbers[at] for at in first], [numbers[at] for at in second]


def can_be_sewn(patches):
    """Tell whether patches that cover a rectangle can be sewn."""
    if len(patches) == 1:
        return True
    seams = straight_seams(patches)
    if not seams:
        return False
    # Both parts of each straight seam can be sewn if the whole can, so that any of them decides.
    first, second = split(patches, seams[0])
    return can_be_sewn(chosen(patches, first)) and can_be_sewn(chosen(patches, second))


def is_behind(one, other, direction):
    """Tell whether a rectangle lies directly behind another one with a full side in common.

    Behind is to the right of it for a vertical seam, and below it for a horizontal one.
    """
    across = HORIZONTAL if direction == VERTICAL else VERTICAL
    return span(one, direction)[1] == span(other, direction)[0] and span(one, across) == span(other, across)


def full_side(one, other):
    """Return the length of the full side that two rectangles have in common, 0 if there is none."""
    if is_behind(one, other, VERTICAL) or is_behind(other, one, VERTICAL):
        return one[2]
    if is_behind(one, other, HORIZONTAL) or is_behind(other, one, HORIZONTAL):
        return one[3]
    return 0
