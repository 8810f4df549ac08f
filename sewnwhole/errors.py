"""The errors that the program raises."""


class SewnError(ValueError):
    """The base class of all errors of the program."""


class TextError(SewnError):
    """A text tells no pattern, or no patches; `line` is the number of the faulty line."""

    def __init__(self, line, what):
        super().__init__(f"line {line}: {what}")
        self.line = line
        self.what = what


class LayoutError(SewnError):
    """Blocks and a layout, or a pattern and a size or numbers of repeats, do not go together."""

    def __init__(self, what):
        super().__init__(f"{what}")
        self.what = what


class PatchError(SewnError):
    """Rectangles are no patches, or patches have no picture; `place` is an index, or -1."""

    def __init__(self, what, place):
        super().__init__(f"{what} (place {place})")
        self.what = what
        self.place = place


class PlanError(SewnError):
    """A plan cannot be carried out; `place` is the index of a step, or -1 behind the last one."""

    def __init__(self, what, place):
        super().__init__(f"{what} (place {place})")
        self.what = what
        self.place = place


class AssemblyError(SewnError):
    """An assembly cannot be made, or cannot do what is asked of it."""

    def __init__(self, what):
        super().__init__(f"{what}")
        self.what = what


class FabricError(SewnError):
    """The fabric of patches cannot be reckoned."""

    def __init__(self, what):
        super().__init__(f"{what}")
        self.what = what


class CutError(SewnError):
    """Pieces cannot be cut from a bolt; `place` is the number of a piece."""

    def __init__(self, what, place):
        super().__init__(f"{what} (place {place})")
        self.what = what
        self.place = place


class WorkroomError(SewnError):
    """A workroom cannot do a deed."""

    def __init__(self, what):
        super().__init__(f"{what}")
        self.what = what


class JudgeError(SewnError):
    """A question has no answer; `place` is the index of a join."""

    def __init__(self, what, place):
        super().__init__(f"{what} (place {place})")
        self.what = what
        self.place = place
