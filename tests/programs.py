"""Programs, told as tuples, that several tests look at; all of them within the bounds of texts."""

import itertools
import random

CELLS = (("x", 0), ("y", 99), ("abcdef", 7))
FENCE = ("fence",)
FORMS = (
    ("put", "x", 1), ("put", "x", "a"), ("put", "x", 0), ("put", "x", 99),
    ("get", "a", "x"),
    ("swap", "a", "x", 1), ("swap", "a", "x", "b"), ("swap", "a", "x", "a"),
    ("swap", "a", "x", 0), ("swap", "a", "x", 99),
    ("add", "a", 1, 2), ("add", "a", "b", 99), ("add", "a", 0, "b"), ("add", "a", "a", "a"), ("add", "a", 99, 99),
    ("skip", "a", 0), ("skip", "a", 1),
    FENCE,
)
FIVE_ROWS = (("get", "a", "x"), ("skip", "a", 1), ("put", "x", "a"), ("add", "b", "a", 1), ("swap", "c", "x", "b"))
FULL = tuple(itertools.chain.from_iterable((FENCE, row) for row in FIVE_ROWS))
FULL_OF_THREE = (FENCE, FIVE_ROWS[0], FENCE, FENCE, FIVE_ROWS[1], FIVE_ROWS[2], FENCE, FENCE)
NINE_BEHIND = (("skip", "a", 9),) + FIVE_ROWS[:4] + (FENCE,) * 5

# Of these just 2,000 states are met, with waiting and in plain turns; of the others one or two more.
JUST_2000 = (
    ((("z", 5),), (
        (("get", "c", "z"), ("get", "a", "z"), ("put", "z", "c"), FENCE),
        (("put", "z", "a"), ("get", "c", "z"), ("put", "z", "a")),
        (("get", "c", "z"), ("get", "a", "z"), ("put", "z", 2)))),
    ((("x", 0), ("y", 0)), (
        (FENCE, ("swap", "d", "x", "a"), ("swap", "d", "y", 50), ("swap", "b", "x", "c")),
        (("put", "x", 99), FENCE, ("swap", "c", "y", "c"), ("swap", "a", "x", 98), FENCE),
        (("get", "d", "x"), ("put", "x", 50), ("put", "x", 50)))),
)
MORE_THAN_2000 = (
    ((("z", 0), ("x", 5)), (
        (("get", "a", "z"), ("put", "x", "c"), ("get", "c", "z")),
        (("swap", "a", "z", "d"), ("put", "x", "b"), ("put", "x", "b"), FENCE),
        (("put", "z", 99), ("get", "d", "x"), ("put", "z", 1)))),
    ((("y", 5),), (
        (("get", "b", "y"), FENCE, ("swap", "b", "y", "a"), FENCE, ("put", "y", 1)),
        (("put", "y", 99), FENCE, ("get", "d", "y"), ("get", "c", "y")),
        (("put", "y", 1), ("swap", "d", "y", 98), ("add", "c", 50, 2)))),
)
PLAIN_JUST_2000 = (
    ((("x", 5),), (
        (("put", "x", 1), ("put", "x", 2), ("add", "a", 1, "c")),
        (("get", "a", "x"), ("put", "x", "d"), ("get", "c", "x"), FENCE),
        (("get", "d", "x"), ("get", "b", "x"), FENCE, ("add", "b", "b", 99)))),
    ((("y", 0),), (
        (("swap", "d", "y", 1), ("add", "c", "a", "c"), ("swap", "d", "y", 2), FENCE),
        (("put", "y", "a"), ("get", "c", "y"), ("swap", "b", "y", 2)),
        (("put", "y", 99), ("put", "y", 50), ("swap", "d", "y", 2), FENCE))),
)
PLAIN_MORE_THAN_2000 = (
    ((("x", 5),), (
        (("get", "b", "x"), ("get", "a", "x"), ("put", "x", 1), FENCE),
        (("swap", "b", "x", 2), ("put", "x", 98), ("put", "x", 1)),
        (("put", "x", 1), ("get", "d", "x"), ("get", "b", "x")))),
    ((("y", 5),), (
        (("get", "a", "y"), FENCE, ("put", "y", 1), FENCE),
        (("get", "c", "y"), ("get", "a", "y"), ("put", "y", 0)),
        (("put", "y", 98), ("put", "y", 99), ("add", "a", "a", 99), FENCE, FENCE))),
)


def programs():
    """Programs of each number of threads and cells, up to the most rows."""
    for many_cells, many_threads in itertools.product((1, 2, 3), (1, 2, 3)):
        cells = CELLS[:many_cells]
        full = FULL_OF_THREE if many_threads == 3 else FULL
        yield (cells, ((),) * many_threads)
        yield (cells, (full,) * many_threads)
        yield (cells, (full, (), full)[:many_threads])
        yield (cells, ((), (FENCE,) * 5, FIVE_ROWS[:3])[:many_threads])
        for form in FORMS:
            yield (cells, ((form, FENCE),) + ((),) * (many_threads - 1))
            yield (cells, ((),) * (many_threads - 1) + ((form, form, FENCE),))
    yield (CELLS, (NINE_BEHIND,))
    yield ((("z", 5), ("y", 5), ("x", 5)), ((("get", "b", "z"),), (("get", "b", "y"),)))


def drawn_programs(seed, many, most_fences=2):
    """Programs drawn by lot, the same ones each time."""
    lot = random.Random(seed)
    for count in range(many):
        names = lot.sample(("x", "y", "zz", "qwerty"), lot.randint(1, 3))
        cells = tuple((name, lot.choice((0, 1, 5, 99))) for name in names)
        many_threads = lot.randint(1, 3)
        most = 3 if many_threads == 3 else 5
        yield (cells, tuple(drawn_rows(lot, names, most, most_fences) for thread in range(many_threads)))


def drawn_rows(lot, cells, most, most_fences):
    words = [lot.choice(("put", "put", "get", "swap", "add", "skip")) for row in range(lot.randint(0, most))]
    words += ["fence"] * lot.randint(0, most_fences)
    lot.shuffle(words)
    boxes = lot.sample(("a", "b", "c", "d", "boxes"), 4)
    return tuple(drawn_row(lot, word, cells, boxes, len(words) - at - 1) for at, word in enumerate(words))


def drawn_row(lot, word, cells, boxes, behind):
    cell = lot.choice(cells)
    box = lot.choice(boxes)
    left, right = [lot.choice([lot.choice(boxes), lot.choice((0, 1, 2, 50, 98, 99))]) for value in range(2)]
    return {
        "put": ("put", cell, left), "get": ("get", box, cell), "swap": ("swap", box, cell, left),
        "add": ("add", box, left, right), "skip": ("skip", box, lot.randint(0, min(9, behind))), "fence": FENCE,
    }[word]
