"""Bolts: pieces that are laid in rows across a bolt, and the cuttings with the least length."""

from sewnwhole.errors import CutError


def least_width(piece, length):
    """Return the least width of a piece that is laid, turned or not, so that it is not longer than told, or None."""
    ways = [piece, (piece[1], piece[0])]
    return min([way[0] for way in ways if way[1] <= length], default=None)


def turned_length(laid, width):
    """Return the length of a row of pieces that may be turned, or None if they do not fit."""
    for length in sorted([0] + [side for piece in laid for side in piece]):
        widths = [least_width(piece, length) for piece in laid]
        if None not in widths and sum(widths) <= width:
            return length
    return None


def row_length(pieces, row, width, *, turned=False):
    """Return the length of a row of pieces, told by their numbers, or None if it does not fit the bolt."""
    laid = [pieces[number] for number in row]
    if turned:
        return turned_length(laid, width)
    if sum([piece[0] for piece in laid]) > width:
        return None
    return max([piece[1] for piece in laid], default=0)


def check_widths(pieces, width, turned):
    """Raise CutError for the first piece that does not fit the bolt alone."""
    for number in range(len(pieces)):
        if row_length(pieces, (number,), width, turned=turned) is None:
            raise CutError("too wide", number)


def subsets(numbers):
    """Return the list of the tuples of some of ascending numbers, each behind those of some of its own."""
    found = [()]
    for number in numbers:
        found = found + [subset + (number,) for subset in found]
    return found


def best_of(numbers, lengths, best):
    """Return the least triple (length, number of rows, cutting) for pieces, from those for some of the pieces."""
    choices = []
    # The first row of each cutting has the least number.
    for others in subsets(numbers[1:]):
        row = numbers[:1] + others
        if lengths[row] is not None:
            length, many, cutting = best[tuple([number for number in numbers if number not in row])]
            choices.append((lengths[row] + length, many + 1, (row,) + cutting))
    return min(choices)


def best_cutting(pieces, width, *, turned=False):
    """Return the pair (length, cutting) of the best cutting; raise CutError."""
    check_widths(pieces, width, turned)
    rows = subsets(list(range(len(pieces))))
    lengths = {row: row_length(pieces, row, width, turned=turned) for row in rows}
    best = {(): (0, 0, ())}
    for numbers in rows[1:]:
        best[numbers] = best_of(numbers, lengths, best)
    length, _, cutting = best[rows[-1]]
    return length, cutting


def row_flaw(pieces, width, cutting, place, turned):
    """Return the first flaw of one of several rows, or None; the rows before it have none."""
    row, earlier = cutting[place], cutting[:place]
    if not row:
        return "empty row"
    if any([one >= other for one, other in zip(row, row[1:])]):
        return "not ascending"
    if row[0] < 0 or row[-1] >= len(pieces):
        return "no such piece"
    if any([number in other for other in earlier for number in row]):
        return "laid twice"
    if earlier and row[0] < earlier[-1][0]:
        return "rows out of order"
    if row_length(pieces, row, width, turned=turned) is None:
        return "does not fit"
    return None


def flaw_of_cutting(pieces, width, cutting, *, turned=False):
    """Return None if a cutting is one whose rows fit, or the pair (place, what) of its first flaw."""
    for place in range(len(cutting)):
        what = row_flaw(pieces, width, cutting, place, turned)
        if what is not None:
            return place, what
    if sum([len(row) for row in cutting]) < len(pieces):
        return len(cutting), "piece left out"
    return None
