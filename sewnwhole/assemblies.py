"""Assemblies, which are sewn of patches join by join, in any order."""

from sewnwhole.cores import core_paper
from sewnwhole.errors import AssemblyError
from sewnwhole.patches import fits
from sewnwhole.seams import can_be_sewn, full_side
from sewnwhole.sections import first_safe_pair, first_sections, is_safe, joined, rectangles_of, safe_pairs, section_with


class Assembly:
    """A pattern, patches that fit it, and the sections that have been sewn of them."""

    def __init__(self, pattern, patches):
        if not fits(pattern, patches):
            raise AssemblyError("patches do not fit")
        self._pattern = pattern
        self._patches = tuple(patches)
        # A list of sections is never modified, so that the joins can keep what was there before them.
        self._sections = first_sections(patches)
        self._joins = []

    @property
    def pattern(self):
        """The pattern of the assembly."""
        return self._pattern

    @property
    def patches(self):
        """The tuple of the patches."""
        return self._patches

    @property
    def sections(self):
        """A new list of the sections, in order."""
        return list(self._sections)

    @property
    def sewn_length(self):
        """The sum of the lengths of the joins that have been made and not ripped."""
        return sum([length for _, length in self._joins])

    @property
    def is_complete(self):
        """Whether there is only one section."""
        return len(self._sections) == 1

    @property
    def is_completable(self):
        """Whether the sections, as they lie, can be sewn."""
        return can_be_sewn(rectangles_of(self._sections))

    def join(self, first, second):
        """Join the sections of two patches, and return the length of their common side; raise AssemblyError."""
        one, other = self[first], self[second]
        if one == other:
            raise AssemblyError("same section")
        length = full_side(one[1], other[1])
        if length == 0:
            raise AssemblyError("no full side")
        self._joins.append((self._sections, length))
        self._sections = joined(self._sections, one, other)
        return length

    def rip(self):
        """Undo the latest join that is left, and return its length; raise AssemblyError."""
        if not self._joins:
            raise AssemblyError("nothing to rip")
        self._sections, length = self._joins.pop()
        return length

    def safe_joins(self):
        """Return the list of the safe joins, in ascending order."""
        # Behind a join no more can be sewn than before it.
        return safe_pairs(self._sections) if self.is_completable else []

    def finish(self):
        """Make the first safe join until the assembly is complete, and return these joins; raise AssemblyError."""
        if not self.is_completable:
            raise AssemblyError("cannot be completed")
        made = []
        while not self.is_complete:
            first, second = first_safe_pair(self._sections)
            self.join(first, second)
            made.append((first, second))
        return made

    def join_from(self, joins):
        """Make those of a list of joins that are safe when they are come to, and return the list of these."""
        made = []
        for first, second in joins:
            if self._is_safe(first, second):
                self.join(first, second)
                made.append((first, second))
        return made

    def _is_safe(self, first, second):
        """Tell whether the join of the sections of two patches is safe; any integers may be asked."""
        one = section_with(self._sections, first)
        other = section_with(self._sections, second)
        return one is not None and other is not None and one != other and is_safe(self._sections, one, other)

    def core(self):
        """Return the core paper of the sections as patches, or None if the assembly is completable."""
        return core_paper(rectangles_of(self._sections))

    def branch(self):
        """Return a new assembly that is like this one, also in the joins that can be ripped."""
        twin = Assembly(self._pattern, self._patches)
        twin._sections = self._sections
        twin._joins = list(self._joins)
        return twin

    def __len__(self):
        return len(self._sections)

    def __iter__(self):
        return iter(self._sections)

    def __getitem__(self, patch):
        section = section_with(self._sections, patch)
        if section is None:
            raise AssemblyError("no such patch")
        return section

    def __eq__(self, other):
        if not isinstance(other, Assembly):
            return NotImplemented
        return (self._pattern == other._pattern and self._patches == other._patches
                and self._sections == other._sections)
