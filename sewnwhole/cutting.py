"""The best patches of patterns: the fewest that can be sewn, with the least seam length."""

from sewnwhole.lines import lines_through, parts_of, rectangles_in
from sewnwhole.patches import can_be_cut
from sewnwhole.patterns import size_of
from sewnwhole.seams import VERTICAL


def cost_of_line(rectangle, line, costs):
    """Return the pair (number of patches, seam length) of a rectangle that a line cuts into two of known costs."""
    first, second = parts_of(rectangle, line)
    side = rectangle[2] if line[0] == VERTICAL else rectangle[3]
    return costs[first][0] + costs[second][0], costs[first][1] + costs[second][1] + side


def cheapest_line(rectangle, costs):
    """Return the pair (cost, line) of the best line through a rectangle, given the costs of smaller rectangles."""
    lines = lines_through(rectangle)
    prices = [cost_of_line(rectangle, line, costs) for line in lines]
    least = min(prices)
    # The lines are in order, and of those that cost the least the first one is found.
    return least, lines[prices.index(least)]


def best_lines(pattern, whole):
    """Return the dict of the lines that the rectangles in a rectangle are cut by, without those that are a patch."""
    costs = {}
    lines = {}
    for rectangle in rectangles_in(whole):
        if can_be_cut(pattern, rectangle):
            costs[rectangle] = (1, 0)
        else:
            costs[rectangle], lines[rectangle] = cheapest_line(rectangle, costs)
    return lines


def patches_by_lines(rectangle, lines):
    """Return the list of the patches that lines cut a rectangle into, those of the first part first."""
    if rectangle not in lines:
        return [rectangle]
    first, second = parts_of(rectangle, lines[rectangle])
    return patches_by_lines(first, lines) + patches_by_lines(second, lines)


def best_patches(pattern):
    """Return the best patches of a pattern."""
    rows, columns = size_of(pattern)
    whole = (0, 0, rows, columns)
    if rows * columns == 0:
        return ()
    return tuple(patches_by_lines(whole, best_lines(pattern, whole)))
