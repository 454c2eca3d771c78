"""Led runs: choices done one by one, taken back, and done again."""

from fencerow.errors import NothingDone
from fencerow.showing import row_text
from fencerow.states import begun
from fencerow.steps import after, can


class Led:
    """Goes through a program by the choices that it is told."""

    def __init__(self, program, waits=True):
        self.program = program
        self.waits = waits
        # Each is (CHOICE, LINE, STATE): what was done, its line in the book, and the state behind it.
        self.standing = []
        # The last one taken back stands last.
        self.taken = []

    def state(self):
        """The state behind the choices that stand."""
        return self.standing[-1][2] if self.standing != [] else begun(self.program)

    def can(self):
        """The choices that can be done, rising."""
        return can(self.program, self.state(), self.waits)

    def go(self, choice):
        """Does the choice, anew: what was taken back can't be done again; BadChoice."""
        ahead = self.state()
        behind = after(self.program, ahead, choice, self.waits)
        self.standing.append((choice, book_line(self.program, ahead, choice), behind))
        self.taken.clear()

    def back(self):
        """Takes back the last choice that stands; NothingDone."""
        if self.standing == []:
            raise NothingDone("no choice stands")
        self.taken.append(self.standing.pop())

    def again(self):
        """Does the last choice again that was taken back; NothingDone."""
        if self.taken == []:
            raise NothingDone("no choice was taken back")
        self.standing.append(self.taken.pop())

    def way(self):
        """The choices that stand."""
        return [choice for choice, line, state in self.standing]

    def many_back(self):
        """How many choices can be done again."""
        return len(self.taken)

    def book(self):
        """A line for each choice that stands."""
        return [line for choice, line, state in self.standing]


def book_line(program, state, choice):
    """The line of the book for a choice that is done in the state."""
    number = choice // 2
    thread = state[1][number]
    if choice % 2 == 0:
        return row_text((number,) + program.threads[number][thread[0]])
    put = thread[2][0]
    return row_text((number, "out", program.cell_names[put[0]], put[1]))
