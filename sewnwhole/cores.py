"""Where patches cannot be sewn, and the papers that show why."""

from sewnwhole.lines import lines_through
from sewnwhole.patches import covered, overlap
from sewnwhole.seams import HORIZONTAL, VERTICAL, can_be_sewn, chosen, crosses, parted, straight_seams


def core_members(patches, numbers):
    """Return the list of the numbers of the patches in the core, given those of patches that cannot be sewn."""
    seams = straight_seams(chosen(patches, numbers))
    if not seams:
        return numbers
    first, second = parted(patches, numbers, seams[0])
    if can_be_sewn(chosen(patches, first)):
        return core_members(patches, second)
    return core_members(patches, first)


def core(patches):
    """Return the core of patches, a rectangle, or None if they can be sewn."""
    if can_be_sewn(patches):
        return None
    return covered(chosen(patches, core_members(patches, list(range(len(patches))))))


def positions_in(rectangle, direction):
    """Return the list of the positions of the lines of a direction through a rectangle, ascending."""
    return [position for own, position in lines_through(rectangle) if own == direction]


def members_in(patches, rectangle):
    """Return the list of the numbers of the patches that have a cell in a rectangle."""
    return [number for number, patch in enumerate(patches) if overlap(patch, rectangle)]


def least_crossing(patches, rectangle, direction):
    """Return the tuple of the least numbers of the patches across each line of a direction through a core."""
    members = members_in(patches, rectangle)
    return tuple([
        min([number for number in members if crosses(patches[number], direction, position)])
        for position in positions_in(rectangle, direction)
    ])


def core_paper(patches):
    """Return the core paper of patches, or None if they can be sewn."""
    rectangle = core(patches)
    if rectangle is None:
        return None
    return rectangle, least_crossing(patches, rectangle, VERTICAL), least_crossing(patches, rectangle, HORIZONTAL)


def are_crossing(patches, rectangle, direction, numbers):
    """Tell whether numbers are those of patches in a rectangle across its lines of a direction, one for each."""
    members = members_in(patches, rectangle)
    positions = positions_in(rectangle, direction)
    return len(numbers) == len(positions) and all([
        number in members and crosses(patches[number], direction, position)
        for number, position in zip(numbers, positions)
    ])


def is_core_paper(patches, paper):
    """Tell whether a core paper is right for patches."""
    rectangle, vertical, horizontal = paper
    inside = chosen(patches, members_in(patches, rectangle))
    if len(inside) < 2 or covered(inside + (rectangle,)) != rectangle:
        return False
    return (are_crossing(patches, rectangle, VERTICAL, vertical)
            and are_crossing(patches, rectangle, HORIZONTAL, horizontal))
