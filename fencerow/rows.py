"""A program as it is kept: its cells, and the rows of its threads; and the forms that rows have."""

# What stands behind a row's first word, from the left.
FORMS = {
    "put": ("cell", "value"),
    "get": ("box", "cell"),
    "swap": ("box", "cell", "value"),
    "add": ("box", "value", "value"),
    "skip": ("box", "figure"),
    "fence": (),
}


class Program:
    """Holds tuples alone, so that what it tells can be changed by nobody."""

    def __init__(self, cells, threads):
        self.cells = cells
        self.threads = threads
        # Each step looks for names: they are gathered once, when the program is made.
        self.cell_names = tuple([name for name, number in cells])
        self.box_names = tuple([boxes_of_rows(rows) for rows in threads])

    def plain(self):
        """The program told as tuples."""
        return (self.cells, self.threads)


def boxes_of_rows(rows):
    """The names of a thread's boxes, each once, in the order in which they first stand in its rows."""
    names = {}
    for row in rows:
        for name in boxes_of_row(row):
            names[name] = True
    return tuple(names)


def boxes_of_row(row):
    """The names of boxes in a row, from the left, as often as they stand there."""
    return [part for kind, part in zip(FORMS[row[0]], row[1:]) if is_box(kind, part)]


def is_box(kind, part):
    """Whether a part of that kind is a box's name."""
    return kind == "box" or (kind == "value" and isinstance(part, str))


def cell_number(program, row):
    """The number of the cell that a put, get or swap is on."""
    return program.cell_names.index(row[1] if row[0] == "put" else row[2])
