"""Sections: pairs (members, rectangle) of the patches that have been sewn to a rectangle, and their joins."""

from sewnwhole.patches import covered
from sewnwhole.seams import can_be_sewn, full_side


def first_sections(patches):
    """Return the list of the sections of patches before any join, in order."""
    return in_order([((number,), patch) for number, patch in enumerate(patches)])


def rectangle_of(section):
    """Return the rectangle of a section."""
    return section[1]


def in_order(sections):
    """Return the list of sections by their first rows, then by their first columns."""
    return sorted(sections, key=rectangle_of)


def rectangles_of(sections):
    """Return the sections as patches, the tuple of their rectangles."""
    return tuple([rectangle_of(section) for section in sections])


def section_with(sections, patch):
    """Return the section of a patch, or None if there is no such patch."""
    for section in sections:
        if patch in section[0]:
            return section
    return None


def joined(sections, one, other):
    """Return the list of sections, in order, in which two of them have been joined."""
    whole = (tuple(sorted(one[0] + other[0])), covered([one[1], other[1]]))
    return in_order([section for section in sections if section not in (one, other)] + [whole])


def is_safe(sections, one, other):
    """Tell whether a join of two different sections is safe."""
    if full_side(one[1], other[1]) == 0:
        return False
    return can_be_sewn(rectangles_of(joined(sections, one, other)))


def joinable(sections):
    """Return the list of the pairs of sections with a full side in common, ordered by their least patch numbers."""
    by_number = sorted(sections)
    return [
        (one, other)
        for at, one in enumerate(by_number)
        for other in by_number[at + 1:]
        if full_side(one[1], other[1]) > 0
    ]


def least_numbers(one, other):
    """Return the pair of the least patch numbers of two sections."""
    return one[0][0], other[0][0]


def safe_pairs(sections):
    """Return the list of the safe joins of sections."""
    return [least_numbers(one, other) for one, other in joinable(sections) if is_safe(sections, one, other)]


def first_safe_pair(sections):
    """Return the first safe join of sections, or None if there is none."""
    for one, other in joinable(sections):
        if is_safe(sections, one, other):
            return least_numbers(one, other)
    return None
