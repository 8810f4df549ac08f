"""Cells: which words are cells, their order, and how they change with their pattern."""

LETTERS = "abcdefghijklmnopqrstuvwxyz"
SLANTS = ("/", "\\")


def is_fabric(word):
    """Tell whether a word is a fabric."""
    return len(word) == 1 and word in LETTERS


def is_cell(word):
    """Tell whether a word is a cell, plain or diagonal."""
    if len(word) != 3:
        return is_fabric(word)
    if word[1] not in SLANTS or word[0] == word[2]:
        return False
    return is_fabric(word[0]) and is_fabric(word[2])


def halves(cell):
    """Return the pair of the fabrics of both halves of a cell."""
    return cell[0], cell[-1]


def slant(cell):
    """Return the slash or the backslash of a cell, or the empty string for a plain one."""
    return cell[1:2]


def cell_key(cell):
    """Return what cells are ordered by."""
    # As strings, the empty one, the slash and the backslash already are in the order of the cells.
    return slant(cell), cell[0], cell[-1]


def turned_cell(cell):
    """Return a cell as it is behind a clockwise quarter turn."""
    if slant(cell) == "/":
        return cell[0] + "\\" + cell[2]
    if slant(cell) == "\\":
        # What is above a backslash comes to lie below the slash that it is turned into.
        return cell[2] + "/" + cell[0]
    return cell


def mirrored_cell(cell):
    """Return a cell with left and right exchanged."""
    if slant(cell) == "/":
        return cell[0] + "\\" + cell[2]
    if slant(cell) == "\\":
        return cell[0] + "/" + cell[2]
    return cell


def renamed_cell(cell, names):
    """Return a cell whose fabrics have the letters that a dict gives them."""
    return "".join([names.get(sign, sign) for sign in cell])
