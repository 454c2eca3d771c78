"""Moments of done rows, and which come ahead of others, by what was seen.

A moment is (THREAD, AT, 0) where a row is done, (THREAD, AT, 1) where a put that waited comes out.
"""

from fencerow.rows import cell_number
from fencerow.seen import done_places, need_seen, putters_on, row_at


def said(program, seen, waits=True):
    """The list of (WORD, MOMENT, MOMENT), the first moment ahead of the second, rising; BadSeen."""
    need_seen(program, seen)
    places = done_places(program, seen[0])
    sayings = []
    for thread in range(len(program.threads)):
        sayings.extend(said_of_thread(program, [place for place in places if place[0] == thread], waits))
    for order in seen[2]:
        sayings.extend([("cell",) + pair for pair in outs_side_by_side(program, order, waits)])
    for place in seen[1]:
        sayings.extend(said_of_getter(program, seen, newest_own_put(program, places, place), place, waits))
    # Where both are one moment, none is said.
    return sorted([saying for saying in sayings if saying[1] != saying[2]])


def moments_of(program, seen, waits):
    """All moments of the done rows, rising."""
    moments = []
    for place in done_places(program, seen[0]):
        moments.append(start_of(place))
        if out_of(program, place, waits) != start_of(place):
            moments.append(out_of(program, place, waits))
    return moments


def start_of(place):
    """The moment when the row there is done."""
    return place + (0,)


def out_of(program, place, waits):
    """The moment when the cell has the number of the put or swap there; of other rows the first one."""
    return place + (1 if waits and is_put(program, place) else 0,)


def is_put(program, place):
    """Whether the row there is a put (a swap is none)."""
    return row_at(program, place)[0] == "put"


def side_by_side(places):
    """Each of these with the next one."""
    return list(zip(places, places[1:]))


def outs_side_by_side(program, places, waits):
    """Of each of these and the next one the outs."""
    return [(out_of(program, place, waits), out_of(program, later, waits)) for place, later in side_by_side(places)]


def said_of_thread(program, places, waits):
    """What the done rows of one thread say, whatever was seen."""
    puts = [place for place in places if is_put(program, place)]
    sayings = [("row", start_of(place), start_of(later)) for place, later in side_by_side(places)]
    sayings.extend([("out", start_of(put), out_of(program, put, waits)) for put in puts])
    sayings.extend([("queue",) + pair for pair in outs_side_by_side(program, puts, waits)])
    for later in places:
        if row_at(program, later)[0] in ("fence", "swap"):
            sayings.extend([("fence", out_of(program, put, waits), start_of(later)) for put in puts if put < later])
    return sayings


def newest_own_put(program, places, place):
    """Of the done rows the newest put of the same thread on the same cell ahead of the place, None without any."""
    putters = putters_on(program, places, cell_number(program, row_at(program, place)))
    own = [put for put in putters if is_put(program, put) and put[0] == place[0] and put < place]
    return own[-1] if own != [] else None


def said_of_getter(program, seen, own, place, waits):
    """What a done get or swap says by its source, own being its thread's newest put on the cell."""
    source = seen[1][place]
    behind = standing_behind(seen[2][cell_number(program, row_at(program, place))], source)
    # Of a swap that stands there itself both moments are one, so it says nothing.
    sayings = [("next", start_of(place), out_of(program, later, waits)) for later in behind]
    if source is not None and source != own:
        sayings.append(("from", out_of(program, source, waits), start_of(place)))
    if row_at(program, place)[0] == "get" and own is not None and own != source:
        sayings.append(("own", out_of(program, own, waits), start_of(place)))
    return sayings


def standing_behind(order, source):
    """That which stands next behind the source, with None the first one, in a tuple; an empty one behind all."""
    at = 0 if source is None else order.index(source) + 1
    return order[at:at + 1]
