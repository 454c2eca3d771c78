"""Programs, told as tuples, that several tests look at; all of them within the bounds of texts."""

import itertools
import random

CELLS = (("x", 0), ("y", 99), ("abcdef", 7))
FENCE = ("fence",)
FORMS = (
    ("put", "x", 1), ("put", "x", "a"), ("put", "x", 0), ("put", "x", 99),
    ("get", "a", "x"),
    ("swap", "a", "x", 1), ("swap", "a", "x", "b"), ("swap", "a", "x", "a"),
    ("swap", "a", "x", 0), ("swap", "a", "x", 99),
    ("add", "a", 1, 2), ("add", "a", "b", 99), ("add", "a", 0, "b"), ("add", "a", "a", "a"), ("add", "a", 99, 99),
    ("skip", "a", 0), ("skip", "a", 1),
    FENCE,
)
FIVE_ROWS = (("get", "a", "x"), ("skip", "a", 1), ("put", "x", "a"), ("add", "b", "a", 1), ("swap", "c", "x", "b"))
FULL = tuple(itertools.chain.from_iterable((FENCE, row) for row in FIVE_ROWS))
FULL_OF_THREE = (FENCE, FIVE_ROWS[0], FENCE, FENCE, FIVE_ROWS[1], FIVE_ROWS[2], FENCE, FENCE)
NINE_BEHIND = (("skip", "a", 9),) + FIVE_ROWS[:4] + (FENCE,) * 5

# Of these just 2,000 states are met, with waiting and in plain turns; of the others one or two more.
JUST_2000 = (
    ((("z", 5),), (
        (("get", "c", "z"), ("get", "a", "z"), ("put", "z", "c"), FENCE),
        (("put", "z", "a"), ("get", "c", "z"), ("put", "z", "a")),
        (("get", "c", "z"), ("get", "a", "z"), ("put", "z", 2)))),
    ((("x", 0), ("y", 0)), (
        (FENCE, ("swap", "d", "x", "a"), ("swap", "d", "y", 50), ("swap", "b", "x", "c")),
        (("put", "x", 99), FENCE, ("swap", "c", "y", "c"), ("swap", "a", "x", 98), FENCE),
        (("get", "d", "x"), ("put", "x", 50), ("put", "x", 50)))),
)
MORE_THAN_2000 = (
    ((("z", 0), ("x", 5)), (
        (("get", "a", "z"), ("put", "x", "c"), ("get", "c", "z")),
        (("swap", "a", "z", "d"), ("put", "x", "b"), ("put", "x", "b"), FENCE),
        (("put", "z", 99), ("get", "d", "x"), ("put", "z", 1)))),
    ((("y", 5),), (
        (("get", "b", "y"), FENCE, ("swap", "b", "y", "a"), FENCE, ("put", "y", 1)),
        (("put", "y", 99), FENCE, ("get", "d", "y"), ("get", "c", "y")),
        (("put", "y", 1), ("swap", "d", "y", 98), ("add", "c", 50, 2)))),
)
PLAIN_JUST_2000 = (
    ((("x", 5),), (
        (("put", "x", 1), ("put", "x", 2), ("add", "a", 1, "c")),
        (("get", "a", "x"), ("put", "x", "d"), ("get", "c", "x"), FENCE),
        (("get", "d", "x"), ("get", "b", "x"), FENCE, ("add", "b", "b", 99)))),
    ((("y", 0),), (
        (("swap", "d", "y", 1), ("add", "c", "a", "c"), ("swap", "d", "y", 2), FENCE),
        (("put", "y", "a"), ("get", "c", "y"), ("swap", "b", "y", 2)),
        (("put", "y", 99), ("put", "y", 50), ("swap", "d", "y", 2), FENCE))),
)
PLAIN_MORE_THAN_2000 = (
    ((("x", 5),), (
        (("get", "b", "x"), ("get", "a", "x"), ("put", "x", 1), FENCE),
        (("swap", "b", "x", 2), ("put", "x", 98), ("put", "x", 1)),
        (("put", "x", 1), ("get", "d", "x"), ("get", "b", "x")))),
    ((("y", 5),), (
        (("get", "a", "y"), FENCE, ("put", "y", 1), FENCE),
        (("get", "c", "y"), ("get", "a", "y"), ("put", "y", 0)),
        (("put", "y", 98), ("put", "y", 99), ("add", "a", "a", 99), FENCE, FENCE))),
)

# Of the bare ones: with no place that is chosen at first, and just 2,000 states, or a few more, in plain turns.
NONE_CHOSEN_JUST_2000 = (
    ((("x", 0),), (
        (("get", "b", "x"), ("swap", "c", "x", "b"), ("put", "x", 1)),
        (("put", "x", 50), ("put", "x", 2), ("swap", "c", "x", 50)),
        (("swap", "a", "x", "a"), ("get", "c", "x"), ("get", "b", "x")))),
    ((("x", 0),), (
        (("swap", "a", "x", "b"), ("put", "x", 50), ("swap", "b", "x", 50)),
        (("swap", "b", "x", 50), ("swap", "c", "x", 1), ("get", "c", "x")),
        (("get", "a", "x"), ("put", "x", 1), ("swap", "b", "x", 2)))),
)
NONE_CHOSEN_MORE_THAN_2000 = (
    ((("x", 0),), (
        (("get", "a", "x"), ("get", "b", "x"), ("get", "c", "x")),
        (("put", "x", 50), ("swap", "b", "x", 1), ("swap", "c", "x", 1)),
        (("get", "a", "x"), ("swap", "c", "x", "b"), ("put", "x", 3)))),
    ((("x", 0),), (
        (("swap", "b", "x", 1), ("get", "c", "x"), ("swap", "b", "x", 3)),
        (("swap", "c", "x", 1), ("swap", "a", "x", 1), ("swap", "a", "x", 50)),
        (("swap", "a", "x", "c"), ("swap", "b", "x", 3), ("get", "b", "x")))),
)
# No more than 2,000 in plain turns, and place by place, but more with the fences that are chosen at first,
# or without any fence.
ALL_CHOSEN_MORE_THAN_2000 = (
    ((("x", 0), ("y", 5)), (
        (("get", "a", "x"), ("put", "y", 2), ("put", "x", "b")),
        (("put", "x", 2), ("put", "x", 50), ("put", "x", "b")),
        (("put", "x", "b"), ("get", "c", "x"), ("get", "a", "x")))),
    ((("x", 0),), (
        (("put", "x", 2), ("get", "a", "x")),
        (("get", "b", "x"), ("swap", "c", "x", "a"), ("put", "x", 3)),
        (("put", "x", 1), ("swap", "c", "x", 3), ("swap", "a", "x", 1)))),
)
BARE_MORE_THAN_2000 = (
    ((("x", 5), ("y", 0), ("z", 0)), (
        (("put", "y", 1), ("put", "y", "c"), ("put", "x", 3)),
        (("put", "y", 3), ("put", "z", 3), ("get", "b", "x")),
        (("put", "x", "a"), ("put", "x", "b"), ("get", "c", "y")))),
    ((("x", 5), ("y", 5)), (
        (("put", "y", 50), ("put", "y", 50), ("put", "y", 2)),
        (("put", "x", "b"), ("put", "x", 50), ("get", "a", "y")),
        (("put", "y", 1), ("get", "b", "x"), ("put", "y", 1)))),
)
# Of these the bare one with the fences that are left without one place is too much, of all others of 13 none:
# without the first one chosen (two of them by just two states), one between, the last one.
FENCED_MORE_THAN_2000 = (
    ((("x", 0),), (
        (("get", "a", "x"), ("put", "x", 1), ("get", "c", "x")),
        (("get", "b", "x"), ("put", "x", 3), ("get", "c", "x")),
        (("get", "a", "x"), ("put", "x", 1), ("put", "x", "a")))),
    ((("x", 5),), (
        (("put", "x", 3), ("put", "x", "a"), ("put", "x", 3)),
        (("put", "x", 50), ("get", "c", "x"), ("put", "x", "b")),
        (("put", "x", 3), ("put", "x", 2), ("get", "a", "x")))),
    ((("x", 5), ("y", 5)), (
        (("put", "y", 3), ("put", "y", 3), ("get", "c", "x")),
        (("put", "x", "a"), ("get", "a", "y"), ("put", "y", "a")),
        (("get", "c", "x"), ("put", "y", 2), ("put", "x", 50)))),
    ((("x", 0), ("y", 0)), (
        (("get", "b", "x"), ("put", "y", 1), ("get", "b", "x")),
        (("put", "x", 1), ("get", "b", "y"), ("get", "c", "y")),
        (("put", "y", 50), ("put", "x", "c"), ("get", "b", "y")))),
    ((("x", 5), ("y", 0), ("z", 5)), (
        (("put", "y", 3), ("put", "x", 2), ("get", "c", "z")),
        (("put", "x", 1), ("put", "z", 1), ("put", "y", 3)),
        (("put", "z", 3), ("get", "b", "x"), ("put", "z", 3)))),
    ((("x", 0),), (
        (("put", "x", 2), ("put", "x", "c"), ("put", "x", 50)),
        (("put", "x", 1), ("get", "c", "x"), ("put", "x", "a")),
        (("put", "x", 50), ("put", "x", 2), ("get", "a", "x")))),
)


def programs():
    """Programs of each number of threads and cells, up to the most rows."""
    for many_cells, many_threads in itertools.product((1, 2, 3), (1, 2, 3)):
        cells = CELLS[:many_cells]
        full = FULL_OF_THREE if many_threads == 3 else FULL
        yield (cells, ((),) * many_threads)
        yield (cells, (full,) * many_threads)
        yield (cells, (full, (), full)[:many_threads])
        yield (cells, ((), (FENCE,) * 5, FIVE_ROWS[:3])[:many_threads])
        for form in FORMS:
            yield (cells, ((form, FENCE),) + ((),) * (many_threads - 1))
            yield (cells, ((),) * (many_threads - 1) + ((form, form, FENCE),))
    yield (CELLS, (NINE_BEHIND,))
    yield ((("z", 5), ("y", 5), ("x", 5)), ((("get", "b", "z"),), (("get", "b", "y"),)))


def drawn_programs(seed, many, most_fences=2):
    """Programs drawn by lot, the same ones each time."""
    lot = random.Random(seed)
    for count in range(many):
        names = lot.sample(("x", "y", "zz", "qwerty"), lot.randint(1, 3))
        cells = tuple((name, lot.choice((0, 1, 5, 99))) for name in names)
        many_threads = lot.randint(1, 3)
        most = 3 if many_threads == 3 else 5
        yield (cells, tuple(drawn_rows(lot, names, most, most_fences) for thread in range(many_threads)))


def drawn_rows(lot, cells, most, most_fences):
    words = [lot.choice(("put", "put", "get", "swap", "add", "skip")) for row in range(lot.randint(0, most))]
    words += ["fence"] * lot.randint(0, most_fences)
    lot.shuffle(words)
    boxes = lot.sample(("a", "b", "c", "d", "boxes"), 4)
    return tuple(drawn_row(lot, word, cells, boxes, len(words) - at - 1) for at, word in enumerate(words))


def drawn_row(lot, word, cells, boxes, behind):
    cell = lot.choice(cells)
    box = lot.choice(boxes)
    left, right = [lot.choice([lot.choice(boxes), lot.choice((0, 1, 2, 50, 98, 99))]) for value in range(2)]
    return {
        "put": ("put", cell, left), "get": ("get", box, cell), "swap": ("swap", box, cell, left),
        "add": ("add", box, left, right), "skip": ("skip", box, lot.randint(0, min(9, behind))), "fence": FENCE,
    }[word]


def crossed_programs(seed, many):
    """Programs drawn by lot whose threads put, and then get what the next one puts, with other rows and fences between."""
    lot = random.Random(seed)
    for count in range(many):
        many_threads = lot.choice((2, 2, 2, 3))
        names = ("x", "y", "zz")[:many_threads]
        cells = tuple((name, lot.choice((0, 0, 5))) for name in names)
        yield (cells, tuple(crossed_rows(lot, names, thread) for thread in range(many_threads)))


def crossed_rows(lot, cells, thread):
    most_others = 1 if len(cells) == 3 else lot.choice((0, 1, 2, 3))
    rows = [("put", cells[thread], lot.choice((1, 2, "b"))), ("get", "a", cells[thread - 1])]
    for other in range(most_others):
        row = drawn_row(lot, lot.choice(("put", "get", "swap", "add", "add", "skip")), cells, ("a", "b", "c", "d"), 0)
        rows.insert(lot.randint(0, len(rows)), row)
    for fence in range(lot.choice((0, 0, 0, 1, 2))):
        rows.insert(lot.randint(0, len(rows)), FENCE)
    return tuple(("skip", row[1], lot.randint(0, len(rows) - at - 1)) if row[0] == "skip" else row for at, row in enumerate(rows))
