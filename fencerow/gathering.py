"""Gathering: all states that some way comes to, their outcomes, and ways there."""

from fencerow.errors import TooMuch
from fencerow.states import begun, is_over, outcome_of
from fencerow.steps import can, is_whole, stepped

MOST_MET = 2000


def outcomes(program, waits=True):
    """The outcomes of all met states that are over, rising, each once; TooMuch."""
    return sorted(set([outcome_of(state) for state in met(program, waits) if is_over(program, state)]))


def many_met(program, waits=True):
    """How many states are met; TooMuch."""
    return len(met(program, waits))


def way_to(program, outcome, waits=True):
    """A way that comes to the outcome, of as few choices as any, None where it is no outcome; TooMuch."""
    came = met(program, waits)
    for state in came:
        if is_over(program, state) and is_same(outcome_of(state), outcome):
            return way_back(came, state)
    return None


def met(program, waits):
    """The met states, those of shorter ways first; TooMuch.

    Each has the state ahead of it and the choice by which it was first come to, the first one None.
    """
    first = begun(program)
    came = {first: None}
    newest = [first]
    while newest != []:
        newest = met_behind(program, newest, came, waits)
    return came


def met_behind(program, states, came, waits):
    """The states one choice behind these that were not met yet, which are met by it; TooMuch."""
    newest = []
    for state in states:
        for choice in can(program, state, waits):
            behind = stepped(program, state, choice, waits)
            if behind not in came:
                came[behind] = (state, choice)
                newest.append(behind)
        # Looked at on the way: a program far beyond the bound is not gone through.
        if len(came) > MOST_MET:
            raise TooMuch(f"more than {MOST_MET} states are met")
    return newest


def is_same(found, outcome):
    """Whether what was handed in is the outcome that was found; truths equal numbers, but are none."""
    return found == outcome and all([are_whole(numbers) for numbers in (outcome[0],) + outcome[1]])


def are_whole(numbers):
    """Whether all of these are whole numbers."""
    return all([is_whole(number) for number in numbers])


def way_back(came, state):
    """The way by which the state was first come to."""
    way = []
    step = came[state]
    while step is not None:
        way.append(step[1])
        step = came[step[0]]
    return list(reversed(way))
