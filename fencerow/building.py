"""Programs made of what is told as tuples."""

from fencerow.rows import Program


def program_of(plain):
    """The program that is told so."""
    return Program(tuples_of(plain[0]), tuple([tuples_of(rows) for rows in plain[1]]))


def tuples_of(parts):
    """The parts as tuples within a tuple, so that no part is kept that somebody could still change."""
    return tuple([tuple(part) for part in parts])
