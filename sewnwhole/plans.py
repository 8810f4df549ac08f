"""Plans: how patches are placed by them, the sewing plan, and the number of ways."""

from sewnwhole.errors import PlanError
from sewnwhole.limits import SIDE
from sewnwhole.lines import lines_through, parts_of, rectangles_in
from sewnwhole.patches import covered, sides
from sewnwhole.seams import DIRECTIONS, VERTICAL, can_be_sewn, chosen, parted, straight_seams


def number_fault(plan, place, items, again):
    """Return the fault of a step that is a number, or None; `again` is the one of a step that uses an item again."""
    step = plan[place]
    if step < 0 or step >= len(items):
        return "no such patch"
    if step in plan[:place]:
        return again
    return None


def sides_of_part(part):
    """Return the pair of the numbers of rows and columns of a part, a list of pairs (number, patch)."""
    return sides([patch for _, patch in part])


def seam_fault(parts, direction):
    """Return the fault of a step that is a seam, or None."""
    if len(parts) < 2:
        return "missing part"
    first = sides_of_part(parts[-2])
    second = sides_of_part(parts[-1])
    # Side by side the rows are in common and the columns add up, one above the other it is the other way round.
    common, added = (0, 1) if direction == VERTICAL else (1, 0)
    if first[common] != second[common]:
        return "parts do not match"
    if max(first[common], first[added] + second[added]) > SIDE:
        return "too large"
    return None


def end_fault(parts, sizes):
    """Return the fault behind the last step, or None."""
    if not parts:
        return "no part"
    if len(parts) > 1:
        return "parts left over"
    if len(parts[0]) < len(sizes):
        return "patch not used"
    return None


def joined_parts(first, second, direction):
    """Return the part that two parts make, the second one to the right of the first one or below it."""
    rows, columns = sides_of_part(first)
    down, across = (0, columns) if direction == VERTICAL else (rows, 0)
    return first + [
        (number, (top + down, left + across, height, width)) for number, (top, left, height, width) in second
    ]


def parts_behind(parts, step, sizes):
    """Return the list of the parts on the stack behind a step without a fault."""
    if step in DIRECTIONS:
        return parts[:-2] + [joined_parts(parts[-2], parts[-1], step)]
    height, width = sizes[step]
    return parts + [[(step, (0, 0, height, width))]]


def placed(plan, sizes):
    """Return the patches of the given sizes as a plan places them; raise PlanError for its first fault."""
    parts = []
    for place, step in enumerate(plan):
        if step in DIRECTIONS:
            what = seam_fault(parts, step)
        else:
            what = number_fault(plan, place, sizes, "patch used again")
        if what is not None:
            raise PlanError(what, place)
        parts = parts_behind(parts, step, sizes)
    what = end_fault(parts, sizes)
    if what is not None:
        raise PlanError(what, -1)
    return tuple([patch for _, patch in sorted(parts[0])])


def plan_of(patches, numbers):
    """Return the sewing plan of the patches with the given numbers, which can be sewn."""
    if len(numbers) == 1:
        return list(numbers)
    seam = straight_seams(chosen(patches, numbers))[0]
    first, second = parted(patches, numbers, seam)
    return plan_of(patches, first) + plan_of(patches, second) + [seam[0]]


def sewing_plan(patches):
    """Return the sewing plan of patches, or None if they cannot be sewn."""
    if not can_be_sewn(patches):
        return None
    return plan_of(patches, list(range(len(patches))))


def ways_by_line(rectangle, line, ways):
    """Return the number of ways of a rectangle whose first cut is a line, from those of smaller rectangles."""
    first, second = parts_of(rectangle, line)
    return ways[first] * ways[second]


def number_of_ways(patches):
    """Return the number of ways of patches, 0 if they cannot be sewn."""
    whole = covered(patches)
    ways = {patch: 1 for patch in patches}
    for rectangle in rectangles_in(whole):
        if rectangle not in ways:
            # A line that is no straight seam adds nothing, as a rectangle that cuts a patch has no ways.
            ways[rectangle] = sum([ways_by_line(rectangle, line, ways) for line in lines_through(rectangle)])
    return ways.get(whole, 0)
