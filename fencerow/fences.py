"""Programs without fences, and with fences put in that leave plain outcomes alone.

A fence stands ahead of the row of the bare program at its place, (THREAD, AT).
"""

from fencerow.building import program_of
from fencerow.gathering import outcomes

FENCE = ("fence",)


def bare(program):
    """The program without its fences; its skips lead to the same rows, or to those next behind a fence."""
    return program_of((program.cells, [bare_rows(rows) for rows in program.threads]))


def bare_rows(rows):
    """A thread's rows without its fences."""
    return [bare_row(row, rows[at + 1:]) for at, row in enumerate(rows) if row != FENCE]


def bare_row(row, behind):
    """The row as it is without the fences among those behind it."""
    if row[0] != "skip":
        return row
    return row[:2] + (len([later for later in behind[:row[2]] if later != FENCE]),)


def fenced(program, places):
    """The bare program with fences at these places of it."""
    base = bare(program)
    threads = [fenced_rows(rows, ats_in(places, thread)) for thread, rows in enumerate(base.threads)]
    return program_of((base.cells, threads))


def ats_in(places, thread):
    """Of the places those of the thread, by their second numbers."""
    return [place[1] for place in places if place[0] == thread]


def fenced_rows(rows, ats):
    """A thread's rows with fences ahead of these."""
    built = []
    for at, row in enumerate(rows):
        if at in ats:
            built.append(FENCE)
        built.append(fenced_row(row, at, ats))
    return built


def fenced_row(row, at, ats):
    """The row at that place as it is with fences ahead of these."""
    if row[0] != "skip":
        return row
    # A fence ahead of the very row to which the skip leads is not gone over.
    over = [later for later in range(at + 1, at + 1 + row[2]) if later in ats]
    return row[:2] + (row[2] + len(over),)


def is_plain(program):
    """Whether its outcomes are all outcomes of its plain turns; TooMuch."""
    return strange(program, outcomes(program, False)) == []


def strange(program, plain):
    """The program's outcomes that are none of the plain ones, rising; TooMuch."""
    return sorted(set(outcomes(program)) - set(plain))


def fence_places(program):
    """The rising list of the places at which fences are left, none of which can be spared; TooMuch."""
    base = bare(program)
    plain = outcomes(base, False)
    left = places_at_first(base)
    for place in list(left):
        others = without(left, place)
        if strange(fenced(base, others), plain) == []:
            left = others
    return left


def places_at_first(base):
    """The places of a bare program with some put ahead in the thread, and some get at or behind, rising."""
    places = []
    for thread, rows in enumerate(base.threads):
        words = [row[0] for row in rows]
        places.extend([(thread, at) for at in range(len(words)) if "put" in words[:at] and "get" in words[at:]])
    return places


def without(places, place):
    """The places but this one."""
    return [other for other in places if other != place]


def comes_back(program, places, place):
    """The least outcome, without the fence at the place, that plain turns don't have, None without any; TooMuch."""
    base = bare(program)
    back = strange(fenced(base, without(places, place)), outcomes(base, False))
    return back[0] if back != [] else None
