"""Steps from state to state, choice by choice."""

from fencerow.errors import BadChoice
from fencerow.rows import cell_number
from fencerow.states import begun


def can(program, state, waits=True):
    """The choices that can be done, rising.

    Without waiting they are found in the same way: nothing waits there, so nothing can come out.
    """
    choices = []
    for number, rows in enumerate(program.threads):
        thread = state[1][number]
        if can_do_row(rows, thread):
            choices.append(2 * number)
        if thread[2] != ():
            choices.append(2 * number + 1)
    return choices


def can_do_row(rows, thread):
    """Whether a thread has a row left, and need not wait for its puts to come out first."""
    if thread[0] >= len(rows):
        return False
    return thread[2] == () or rows[thread[0]][0] not in ("fence", "swap")


def after(program, state, choice, waits=True):
    """The state behind the choice; BadChoice where it can't be done."""
    need_choice(choice, can(program, state, waits))
    return stepped(program, state, choice, waits)


def need_choice(choice, choices):
    """Refuses what is none of the choices."""
    if not is_whole(choice) or choice not in choices:
        raise BadChoice(choice)


def is_whole(part):
    """Whether it is a whole number; a truth is none, though it equals one."""
    return isinstance(part, int) and not isinstance(part, bool)


def walked(program, way, waits=True):
    """The state behind the way; BadChoice by its first choice that can't be done."""
    state = begun(program)
    for choice in way:
        state = after(program, state, choice, waits)
    return state


def stepped(program, state, choice, waits):
    """The state behind a choice that can be done."""
    if choice % 2 == 1:
        return come_out(state, choice // 2)
    return row_done(program, state, choice // 2, waits)


def come_out(state, number):
    """The state where the eldest waiting put of that thread has come out."""
    thread = state[1][number]
    put = thread[2][0]
    left = (thread[0], thread[1], thread[2][1:])
    return (with_part(state[0], put[0], put[1]), with_part(state[1], number, left))


def row_done(program, state, number, waits):
    """The state where that thread has done its next row."""
    cells = state[0]
    thread = state[1][number]
    waiting = thread[2]
    row = program.threads[number][thread[0]]
    boxes = dict(zip(program.box_names[number], thread[1]))
    at = thread[0] + 1 + many_gone_over(row, boxes)
    # Ahead of the boxes: a swap puts what its value was ahead of it.
    put = put_of(program, row, boxes)
    if row[0] in ("get", "swap"):
        boxes[row[1]] = number_seen(cells, waiting, cell_number(program, row))
    elif row[0] == "add":
        boxes[row[1]] = sum_of(value_of(row[2], boxes), value_of(row[3], boxes))
    if row[0] == "put" and waits:
        waiting = waiting + (put,)
    elif put is not None:
        cells = with_part(cells, put[0], put[1])
    return (cells, with_part(state[1], number, (at, tuple(boxes.values()), waiting)))


def many_gone_over(row, boxes):
    """How many rows the row goes over."""
    return row[2] if row[0] == "skip" and boxes[row[1]] == 0 else 0


def put_of(program, row, boxes):
    """The cell and the number that a put or swap puts there, None of other rows."""
    if row[0] not in ("put", "swap"):
        return None
    return (cell_number(program, row), value_of(row[-1], boxes))


def value_of(value, boxes):
    """The number that a value stands for."""
    return boxes[value] if isinstance(value, str) else value


def number_seen(cells, waiting, cell):
    """The number that a thread sees in a cell: its own newest waiting put goes ahead of the cell."""
    own = [number for place, number in waiting if place == cell]
    return own[-1] if own != [] else cells[cell]


def sum_of(left, right):
    """What an add tells its box."""
    both = left + right
    return both if both < 100 else both - 100


def with_part(parts, place, part):
    """The tuple with this part at that place."""
    return parts[:place] + (part,) + parts[place + 1:]
