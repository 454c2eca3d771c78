"""The machine and what it sees, told a second way, over plain programs alone and by other means than the package's."""

import itertools


def places_of(told):
    return [(thread, at) for thread, rows in enumerate(told[1]) for at in range(len(rows))]


def row_of(told, place):
    return told[1][place[0]][place[1]]


def cell_of(told, place):
    """The number of the cell that the row there names, None without any."""
    names = [name for name, number in told[0]]
    found = [names.index(part) for part in row_of(told, place)[1:] if part in names]
    return found[0] if found else None


def is_of(told, place, *words):
    return row_of(told, place)[0] in words


class Node:
    """Where a way has come to, with all that it has seen; each cell and each waiting put knows whose number it has."""

    def __init__(self, told):
        self.told = told
        self.cells = [(number, None) for name, number in told[0]]
        self.at = [0] * len(told[1])
        self.boxes = [{} for rows in told[1]]
        self.waiting = [[] for rows in told[1]]
        self.done = []
        self.sources = {}
        self.orders = [[] for cell in told[0]]

    def behind(self):
        """The same place, to be gone on from."""
        node = Node(self.told)
        node.cells, node.at, node.done = list(self.cells), list(self.at), list(self.done)
        node.boxes = [dict(boxes) for boxes in self.boxes]
        node.waiting = [list(waiting) for waiting in self.waiting]
        node.sources = dict(self.sources)
        node.orders = [list(order) for order in self.orders]
        return node

    def key(self):
        """The same of two nodes just where they are alike."""
        return repr((self.cells, self.at, [sorted(boxes.items()) for boxes in self.boxes], self.waiting, sorted(self.done),
                     sorted(self.sources.items()), self.orders))

    def where(self):
        """The same of two nodes just where the same state is met, whatever was seen on the way."""
        waiting = [[(cell, number) for cell, number, place in waiting] for waiting in self.waiting]
        return repr((self.outcome(), self.at, waiting))

    def choices(self):
        for thread, rows in enumerate(self.told[1]):
            if self.waiting[thread]:
                yield 2 * thread + 1
            if rows[self.at[thread]:] and not (self.waiting[thread] and rows[self.at[thread]][0] in ("swap", "fence")):
                yield 2 * thread

    def has(self, cell, number, place):
        self.cells[cell] = (number, place)
        self.orders[cell].append(place)

    def goes(self, choice, waits):
        thread, out = divmod(choice, 2)
        if out:
            self.has(*self.waiting[thread].pop(0))
            return
        place = (thread, self.at[thread])
        word, *parts = row_of(self.told, place)
        boxes = self.boxes[thread]
        values = [part if isinstance(part, int) else boxes.get(part, 0) for part in parts]
        cell = cell_of(self.told, place)
        self.done.append(place)
        self.at[thread] += 1
        if word in ("get", "swap"):
            seen = [(number, source) for where, number, source in self.waiting[thread] if where == cell][-1:]
            boxes[parts[0]], self.sources[place] = (seen or [self.cells[cell]])[0]
        if word == "put":
            self.waiting[thread].append((cell, values[1], place))
            if not waits:
                self.has(*self.waiting[thread].pop())
        elif word == "swap":
            self.has(cell, values[2], place)
        elif word == "add":
            boxes[parts[0]] = (values[1] + values[2]) % 100
        elif word == "skip" and values[0] == 0:
            self.at[thread] += parts[1]

    def seen(self):
        done = tuple(sum(1 << at for where, at in self.done if where == thread) for thread in range(len(self.told[1])))
        return (done, dict(self.sources), tuple(map(tuple, self.orders)))

    def outcome(self):
        names = [name for name, number in self.told[0]]
        boxes = [dict.fromkeys(part for row in rows for part in row[1:] if isinstance(part, str) and part not in names)
                 for rows in self.told[1]]
        numbers = tuple(tuple(self.boxes[thread].get(name, 0) for name in of) for thread, of in enumerate(boxes))
        return (tuple(number for number, place in self.cells), numbers)


def last_nodes(told, waits, most=20000, key=Node.key):
    """A node for each thing that whole ways see, None where that goes through more nodes than most."""
    first = Node(told)
    met = {key(first): first}
    newest = [first]
    last = []
    while newest:
        node = newest.pop()
        choices = list(node.choices())
        if not choices:
            last.append(node)
        for choice in choices:
            behind = node.behind()
            behind.goes(choice, waits)
            if met.setdefault(key(behind), behind) is behind:
                newest.append(behind)
        if len(met) > most:
            return None
    return last


def outcomes_met(told, waits, most=2000):
    """The set of all outcomes, None where more than most states are met."""
    nodes = last_nodes(told, waits, most, Node.where)
    return None if nodes is None else {node.outcome() for node in nodes}


def key_of(seen):
    """What can be kept in a set, the same for the same seen."""
    return (seen[0], tuple(sorted(seen[1].items())), seen[2])


def seen_along(told, way, waits):
    """What a way has seen, told of the log of all that happened, looked at from behind."""
    log = []
    node = Node(told)
    for choice in way:
        thread, out = divmod(choice, 2)
        if out:
            puts = [place for what, place in log if what == "do" and place[0] == thread and is_of(told, place, "put")]
            log.append(("out", puts[sum(what == "out" and place[0] == thread for what, place in log)]))
        else:
            log.append(("do", (thread, node.at[thread])))
        node.goes(choice, waits)
    outs = [event for event in log if event[0] == ("out" if waits and is_of(told, event[1], "put") else "do")]
    done = [place for what, place in log if what == "do"]
    numbers = tuple(sum(1 << at for thread, at in done if thread == number) for number in range(len(told[1])))
    orders = tuple(tuple(place for what, place in outs if is_of(told, place, "put", "swap") and cell_of(told, place) == cell)
                   for cell in range(len(told[0])))
    sources = {place: source_in(told, log, outs, place) for place in done if is_of(told, place, "get", "swap")}
    return (numbers, sources, orders)


def source_in(told, log, outs, getter):
    ahead = log[:log.index(("do", getter))]
    on_cell = [event for event in ahead if is_of(told, event[1], "put", "swap") and cell_of(told, event[1]) == cell_of(told, getter)]
    own = [place for what, place in on_cell if place[0] == getter[0] and not any(
        event in outs for event in on_cell if event[1] == place)]
    there = [event[1] for event in on_cell if event in outs]
    return ([None] + there + own)[-1]


def goings(rows, at=0):
    """The numbers of all goings through the rows from at on."""
    if at >= len(rows):
        return {0}
    nexts = {at + 1, at + 1 + rows[at][2]} if rows[at][0] == "skip" else {at + 1}
    return {1 << at | rest for behind in nexts for rest in goings(rows, behind)}


def may_be_seen(told, most):
    """All that may be seen, whether some way has or not; None where that is more than most."""
    told_seen = []
    for done in itertools.product(*[sorted(goings(rows)) for rows in told[1]]):
        places = [place for place in places_of(told) if done[place[0]] >> place[1] & 1]
        putters = [[place for place in places if is_of(told, place, "put", "swap") and cell_of(told, place) == cell]
                   for cell in range(len(told[0]))]
        getters = [place for place in places if is_of(told, place, "get", "swap")]
        choices = [[None] + [put for put in putters[cell_of(told, place)] if put != place] for place in getters]
        for picked in itertools.product(*choices):
            for orders in itertools.product(*[itertools.permutations(cell) for cell in putters]):
                told_seen.append((done, dict(zip(getters, picked)), orders))
                if len(told_seen) > most:
                    return None
    return told_seen


def goes_against_a_skip(told, seen):
    """Whether, by the numbers that come of what was seen without a ring, a skip goes otherwise than done tells."""
    done, sources, orders = seen

    def box_ahead(place, box):
        """What the box has ahead of the row there."""
        for at in reversed(range(place[1])):
            row = told[1][place[0]][at]
            if done[place[0]] >> at & 1 and row[0] in ("get", "swap", "add") and row[1] == box:
                return told_by((place[0], at))
        return 0

    def value_ahead(place, value):
        return value if isinstance(value, int) else box_ahead(place, value)

    def told_by(place):
        """What a get, swap or add tells its box."""
        row = row_of(told, place)
        if row[0] == "add":
            return (value_ahead(place, row[2]) + value_ahead(place, row[3])) % 100
        source = sources[place]
        return told[0][cell_of(told, place)][1] if source is None else value_ahead(source, row_of(told, source)[-1])

    for thread, at in places_of(told):
        row = told[1][thread][at]
        rows_behind = range(at + 1, min(at + 1 + row[2], len(told[1][thread]))) if row[0] == "skip" else ()
        if done[thread] >> at & 1 and len(rows_behind) > 0:
            goes_over = not done[thread] >> rows_behind[0] & 1
            if goes_over != (box_ahead((thread, at), row[1]) == 0):
                return True
    return False
