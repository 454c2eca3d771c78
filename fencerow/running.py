"""Texts looked at: their programs, the texts of their outcomes, and their texts with fences put in."""

from fencerow.fences import fence_places, fenced
from fencerow.gathering import outcomes
from fencerow.reading import read
from fencerow.showing import shown


def looked(text):
    """The program that the text tells; BadText."""
    return read(text)


def outcome_texts(text, waits=True):
    """A text for each outcome, in their order; BadText, TooMuch."""
    program = looked(text)
    return [outcome_text(program, outcome) for outcome in outcomes(program, waits)]


def outcome_text(program, outcome):
    """The outcome, each number with its name, as in `x=1 y=0 0:a=1 b=2 1:c=0`."""
    parts = [named(program.cell_names, outcome[0])]
    for thread, names in enumerate(program.box_names):
        # A thread without boxes has nothing to tell.
        if names != ():
            boxes = named(names, outcome[1][thread])
            parts.append(f"{thread}:{boxes}")
    return " ".join(parts)


def named(names, numbers):
    """Each name with its number."""
    return " ".join([f"{name}={number}" for name, number in zip(names, numbers)])


def plain_with(text):
    """The text of the bare program with the fences that leave plain outcomes alone; BadText, TooMuch."""
    program = looked(text)
    return shown(fenced(program, fence_places(program)))
