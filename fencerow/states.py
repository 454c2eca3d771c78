"""States: the first one, where one is over, and its outcome.

A state is (CELLS, THREADS), each thread (AT, BOXES, WAITS).
"""


def begun(program):
    """The first state."""
    cells = tuple([number for name, number in program.cells])
    return (cells, tuple([(0, (0,) * len(names), ()) for names in program.box_names]))


def is_over(program, state):
    """Whether no choice is left: what waits can always come out, and then any row can be done."""
    return all([is_at_end(rows, thread) for rows, thread in zip(program.threads, state[1])])


def is_at_end(rows, thread):
    """Whether a thread has no row left, and nothing that waits."""
    return thread[0] >= len(rows) and thread[2] == ()


def outcome_of(state):
    """The cells' numbers, and for each thread those of its boxes."""
    return (state[0], tuple([boxes for at, boxes, waiting in state[1]]))
