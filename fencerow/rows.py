"""A program as it is kept: its cells, and the rows of its threads."""


class Program:
    """Holds tuples alone, so that what it tells can be changed by nobody."""

    def __init__(self, cells, threads):
        self.cells = cells
        self.threads = threads

    def plain(self):
        """The program told as tuples."""
        return (self.cells, self.threads)
