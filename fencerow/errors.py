"""What fencerow refuses, one class for each refusal."""


class FenceError(ValueError):
    """Above all that fencerow refuses."""


class BadText(FenceError):
    """A text that is no program's; `line` is the line that tells so."""

    def __init__(self, line):
        FenceError.__init__(self, f"no text of a program, by line {line}")
        self.line = line


class BadChoice(FenceError):
    """What is none of the choices that can be done; `choice` is what was told for one."""

    def __init__(self, choice):
        # The words leave the choice out: it may be anything, even what has no text
        # (a whole number of too many figures has none).
        FenceError.__init__(self, "none of the choices that can be done")
        self.choice = choice


class TooMuch(FenceError):
    """More states are met than are gathered."""


class BadSeen(FenceError):
    """What no way whatever can have seen; `part` is the first part that is wrong."""

    def __init__(self, part):
        FenceError.__init__(self, f"seen by no way, by its {part}")
        self.part = part


class NothingDone(FenceError):
    """No choice stands to be taken back, or none was taken back to be done again."""
