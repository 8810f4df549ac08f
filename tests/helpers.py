"""What several of the tests use: patches of many kinds, and plain searches over cells and joins."""

import itertools

PINWHEEL = ((0, 0, 1, 2), (0, 2, 2, 1), (1, 0, 2, 1), (1, 1, 1, 1), (2, 1, 1, 2))
MIRRORED_PINWHEEL = ((0, 0, 2, 1), (0, 1, 1, 2), (1, 1, 1, 1), (1, 2, 2, 1), (2, 0, 1, 2))


def cells_of_rectangle(rectangle):
    """Return the set of the cells of a rectangle."""
    top, left, height, width = rectangle
    return {(top + down, left + across) for down in range(height) for across in range(width)}


def seams_by_cells(patches):
    """Return the list of the straight seams of patches, found cell by cell."""
    owner = {cell: number for number, patch in enumerate(patches) for cell in cells_of_rectangle(patch)}
    found = []
    for direction, axis in (("|", 1), ("-", 0)):
        starts = [cell[axis] for cell in owner]
        for position in range(min(starts) + 1, max(starts) + 1):
            before = {number for cell, number in owner.items() if cell[axis] < position}
            behind = {number for cell, number in owner.items() if cell[axis] >= position}
            if not before & behind:
                found.append((direction, position, sorted(before), sorted(behind)))
    return found


def sewn_by_joins(patches):
    """Tell whether some order of joins along full sides makes one rectangle of the patches."""
    waiting, seen = [frozenset(patches)], set()
    while waiting:
        sections = waiting.pop()
        if len(sections) == 1:
            return True
        for one, other in itertools.permutations(sections, 2):
            top, left, height, width = one
            if other == (top, left + width, height, other[3]):
                whole = (top, left, height, width + other[3])
            elif other == (top + height, left, other[2], width):
                whole = (top, left, height + other[2], width)
            else:
                continue
            joined = sections - {one, other} | {whole}
            if joined not in seen:
                seen.add(joined)
                waiting.append(joined)
    return False


def partitions(height, width):
    """Return the list of all patches of so many rows and columns."""
    found, waiting = [], [((), frozenset())]
    while waiting:
        patches, taken = waiting.pop()
        free = [cell for cell in itertools.product(range(height), range(width)) if cell not in taken]
        if not free:
            found.append(patches)
            continue
        row, column = free[0]
        for many, wide in itertools.product(range(1, height - row + 1), range(1, width - column + 1)):
            patch = (row, column, many, wide)
            if not cells_of_rectangle(patch) & taken:
                waiting.append(((*patches, patch), taken | cells_of_rectangle(patch)))
    return found


def sewn_at_random(lot, top, left, height, width):
    """Return patches that are cut out of a rectangle by straight cuts."""
    cuts = [("|", column) for column in range(1, width)] + [("-", row) for row in range(1, height)]
    if not cuts or lot.random() < 0.15:
        return [(top, left, height, width)]
    direction, at = lot.choice(cuts)
    if direction == "|":
        return (sewn_at_random(lot, top, left, height, at)
                + sewn_at_random(lot, top, left + at, height, width - at))
    return (sewn_at_random(lot, top, left, at, width)
            + sewn_at_random(lot, top + at, left, height - at, width))


def chance_patches(lot, height, width, largest=4):
    """Return patches of so many rows and columns that are drawn by lot, in an order that is, too."""
    taken, patches = set(), []
    for row, column in itertools.product(range(height), range(width)):
        if (row, column) not in taken:
            many, wide = lot.randint(1, min(largest, height - row)), lot.randint(1, min(largest, width - column))
            patch = (row, column, many, wide)
            while cells_of_rectangle(patch) & taken:
                patch = (*patch[:3], patch[3] - 1)
            taken |= cells_of_rectangle(patch)
            patches.append(patch)
    lot.shuffle(patches)
    return tuple(patches)


def cells_as_patches(height, width):
    """Return the patches that are all single cells of so many rows and columns, row by row."""
    return tuple((row, column, 1, 1) for row in range(height) for column in range(width))


def pinwheel_in(lot, top, left, height, width):
    """Return the patches of a pinwheel, or of a mirrored one, in a rectangle of at least three rows and columns."""
    (upper, lower), (near, far) = [sorted(lot.sample(range(1, many), 2)) for many in (height, width)]
    patches = [(0, 0, upper, far), (0, far, lower, width - far), (upper, 0, height - upper, near),
               (upper, near, lower - upper, far - near), (lower, near, height - lower, width - near)]
    if lot.random() < 0.5:
        patches = [(row, width - column - wide, many, wide) for row, column, many, wide in patches]
    return [(top + row, left + column, many, wide) for row, column, many, wide in patches]


def mixed_at_random(lot, height, width):
    """Return patches of so many rows and columns, in any order, that now and then cannot be sewn."""
    patches = []
    for patch in sewn_at_random(lot, 0, 0, height, width):
        spoiled = min(patch[2:]) >= 3 and lot.random() < 0.7
        patches += pinwheel_in(lot, *patch) if spoiled else [patch]
    lot.shuffle(patches)
    return tuple(patches)


def fitting_pattern(lot, patches, fabrics="abc"):
    """Return a pattern that patches fit, with fabrics drawn by lot; of single cells some are diagonal."""
    cells = {}
    for patch in patches:
        word = lot.choice(fabrics)
        if patch[2:] == (1, 1) and lot.random() < 0.4:
            word = lot.choice("/\\").join(lot.sample(fabrics, 2))
        cells.update({cell: word for cell in cells_of_rectangle(patch)})
    rows, columns = max(cells)[0] + 1, max(cells)[1] + 1
    return tuple(tuple(cells[row, column] for column in range(columns)) for row in range(rows))


def any_plan(lot, patches, numbers=None):
    """Return a plan that sews patches by straight seams that are drawn by lot."""
    numbers = list(range(len(patches))) if numbers is None else numbers
    if len(numbers) == 1:
        return numbers
    direction, _, before, behind = lot.choice(seams_by_cells([patches[number] for number in numbers]))
    parts = [[numbers[at] for at in part] for part in (before, behind)]
    return any_plan(lot, patches, parts[0]) + any_plan(lot, patches, parts[1]) + [direction]


def chance_pattern(lot, height, width, fabrics="aab", diagonals=0.1):
    """Return a pattern of so many rows and columns whose cells are drawn by lot."""
    return tuple(tuple(lot.choice("/\\").join(lot.sample("ab", 2)) if lot.random() < diagonals else lot.choice(fabrics)
                       for _ in range(width)) for _ in range(height))


def fault_of(error, action, *arguments, **more):
    """Return the tuple of the attributes of the error that an action raises, or None if it raises none."""
    try:
        action(*arguments, **more)
    except error as fault:
        return tuple(vars(fault).values())
    return None
