"""What was seen: the rows that were done, whose numbers gets and swaps got, and the orders of cells.

It is (DONE, SOURCES, ORDERS). A row is told by its place, (THREAD, AT).
"""

from fencerow.errors import BadSeen
from fencerow.rows import cell_number
from fencerow.states import begun
from fencerow.steps import after, is_whole


def need_seen(program, seen):
    """Refuses what can't be seen by any way whatever; BadSeen by the first part that is wrong."""
    if not is_tuple_of(seen, 3) or not is_done(program, seen[0]):
        raise BadSeen("done")
    places = done_places(program, seen[0])
    if not is_sources(program, places, seen[1]):
        raise BadSeen("sources")
    if not is_orders(program, places, seen[2]):
        raise BadSeen("orders")


def is_tuple_of(parts, many):
    """Whether it is a tuple of so many parts."""
    return isinstance(parts, tuple) and len(parts) == many


def is_done(program, done):
    """Whether each thread has the number of some going through its rows."""
    if not is_tuple_of(done, len(program.threads)):
        return False
    return all([is_whole(number) and number == gone_by(rows, number) for rows, number in zip(program.threads, done)])


def gone_by(rows, number):
    """The number of the going through the rows that keeps to this number as far as any does.

    It never has to try: a skip goes over its rows where the row behind it was not done.
    """
    gone = 0
    at = 0
    while at < len(rows):
        gone = gone | 1 << at
        row = rows[at]
        at = at + 1
        if row[0] == "skip" and number >> at & 1 == 0:
            at = at + row[2]
    return gone


def done_places(program, done):
    """The places of all done rows, rising."""
    places = []
    for thread, rows in enumerate(program.threads):
        places.extend([(thread, at) for at in range(len(rows)) if done[thread] >> at & 1 == 1])
    return places


def row_at(program, place):
    """The row at the place."""
    return program.threads[place[0]][place[1]]


def is_sources(program, places, sources):
    """Whether just the done gets and swaps have a source, each one that it can have."""
    getters = [place for place in places if row_at(program, place)[0] in ("get", "swap")]
    if not isinstance(sources, dict) or len(sources) != len(getters):
        return False
    if not all([is_place(place) and place in getters for place in sources]):
        return False
    return all([is_source(program, places, place, source) for place, source in sources.items()])


def is_place(place):
    """Whether it is a tuple of two whole numbers."""
    return is_tuple_of(place, 2) and is_whole(place[0]) and is_whole(place[1])


def is_source(program, places, place, source):
    """Whether the done get or swap there can have this source."""
    if source is None:
        return True
    cell = cell_number(program, row_at(program, place))
    return is_place(source) and source != place and source in putters_on(program, places, cell)


def putters_on(program, places, cell):
    """The places of the done puts and swaps on the cell, rising."""
    putters = [place for place in places if row_at(program, place)[0] in ("put", "swap")]
    return [place for place in putters if cell_number(program, row_at(program, place)) == cell]


def is_orders(program, places, orders):
    """Whether each cell has its done puts and swaps, each once."""
    if not is_tuple_of(orders, len(program.cells)):
        return False
    return all([is_order(order, putters_on(program, places, cell)) for cell, order in enumerate(orders)])


def is_order(order, putters):
    """Whether it is a tuple of these places, each once."""
    if not isinstance(order, tuple) or not all([is_place(place) for place in order]):
        return False
    return sorted(order) == putters


def seen_by(program, way, waits=True):
    """What a way that comes to a state that is over has seen."""
    watch = Watch(program)
    state = begun(program)
    for choice in way:
        behind = after(program, state, choice, waits)
        thread = choice // 2
        if choice % 2 == 1:
            watch.comes_out(thread)
        else:
            watch.does((thread, state[1][thread][0]), waits)
        state = behind
    return watch.told()


class Watch:
    """Goes along beside the machine, and keeps places where a state has numbers."""

    def __init__(self, program):
        self.program = program
        self.done = [0 for rows in program.threads]
        self.sources = {}
        self.orders = [[] for cell in program.cells]
        # What waits of each thread, eldest first.
        self.waiting = [[] for rows in program.threads]

    def does(self, place, waits):
        """The row there is done."""
        row = row_at(self.program, place)
        self.done[place[0]] = self.done[place[0]] | 1 << place[1]
        if row[0] in ("get", "swap"):
            self.sources[place] = self.source_now(place[0], cell_number(self.program, row))
        if row[0] == "put" and waits:
            self.waiting[place[0]].append(place)
        elif row[0] in ("put", "swap"):
            self.reaches_cell(place)

    def source_now(self, thread, cell):
        """Whose number the thread sees in the cell: its own newest one that waits, else the cell's."""
        own = putters_on(self.program, self.waiting[thread], cell)
        putters = own if own != [] else self.orders[cell]
        return putters[-1] if putters != [] else None

    def comes_out(self, thread):
        """The thread's eldest waiting put comes out."""
        self.reaches_cell(self.waiting[thread].pop(0))

    def reaches_cell(self, place):
        """The cell has the number of the put or swap there."""
        self.orders[cell_number(self.program, row_at(self.program, place))].append(place)

    def told(self):
        """All this as it is told."""
        return (tuple(self.done), dict(self.sources), tuple([tuple(order) for order in self.orders]))
