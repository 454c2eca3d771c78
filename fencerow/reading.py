"""Programs read from texts."""

from fencerow.building import program_of
from fencerow.errors import BadText
from fencerow.rows import FORMS, boxes_of_rows

MOST_CELLS = 3
MOST_THREADS = 3
MOST_BOXES = 4
MOST_FENCES = 5
MOST_OTHERS = 5
MOST_OTHERS_OF_THREE = 3
LONGEST_NAME = 6
LONGEST_NUMBER = 2


def read(text):
    """The program that the text tells; BadText where it tells none."""
    if not isinstance(text, str):
        raise BadText(0)
    lines = text.split("\n")
    told = Told()
    for number, line in enumerate(lines, start=1):
        if not told.goes_on(number, line):
            raise BadText(number)
    if told.threads == []:
        raise BadText(len(lines) + 1)
    need_skips_within(told)
    return program_of((told.cells, told.threads))


def need_skips_within(told):
    """Refuses the first skip that leads beyond its thread's end; how long a thread is, is known at the end alone."""
    for rows, numbers in zip(told.threads, told.numbers):
        for at, row in enumerate(rows):
            if row[0] == "skip" and row[2] > len(rows) - at - 1:
                raise BadText(numbers[at])


class Told:
    """What the lines so far have told, all of them good."""

    def __init__(self):
        self.cells = []
        self.threads = []
        # For each thread, the numbers of the lines in which its rows stand.
        self.numbers = []

    def goes_on(self, number, line):
        """Whether the text may go on with this line; if so, it is taken in."""
        if not has_good_signs(line):
            return False
        words = line.partition("#")[0].split()
        if words == []:
            return True
        if self.cells == []:
            self.cells = cells_of(words)
            return self.cells != []
        if words == ["thread"]:
            return self.begins_thread()
        return self.takes_row(number, words)

    def begins_thread(self):
        """Whether one more thread may begin; if so, it does."""
        many = len(self.threads) + 1
        if many > MOST_THREADS or not all([many_others(rows) <= most_others(many) for rows in self.threads]):
            return False
        self.threads.append([])
        self.numbers.append([])
        return True

    def takes_row(self, number, words):
        """Whether the words are a row that the last thread may have; if so, it has it."""
        row = row_of(words, [name for name, first in self.cells])
        if self.threads == [] or row is None:
            return False
        self.threads[-1].append(row)
        self.numbers[-1].append(number)
        return is_short(self.threads[-1], most_others(len(self.threads)))


def has_good_signs(line):
    """Whether all signs are from the blank to ~: in a remark, too, and so no tab."""
    return all([" " <= sign <= "~" for sign in line])


def cells_of(words):
    """The cells that the first line tells, none where it is wrong."""
    names = words[1::2]
    numbers = words[2::2]
    if words[0] != "cells" or len(names) != len(numbers) or len(names) > MOST_CELLS:
        return []
    if len(set(names)) != len(names) or not all([is_name(name) for name in names]):
        return []
    if not all([is_number(number) for number in numbers]):
        return []
    return [(name, int(number)) for name, number in zip(names, numbers)]


def row_of(words, cell_names):
    """The row that the words tell, None where they tell none."""
    kinds = FORMS.get(words[0])
    if kinds is None or len(words) != len(kinds) + 1:
        return None
    parts = [part_of(kind, word, cell_names) for kind, word in zip(kinds, words[1:])]
    if None in parts:
        return None
    return tuple(words[:1] + parts)


def part_of(kind, word, cell_names):
    """The word as a part of that kind, None where it is none."""
    if kind == "cell":
        return word if word in cell_names else None
    if kind == "figure":
        return int(word) if is_number(word) and len(word) == 1 else None
    if kind == "value" and is_number(word):
        return int(word)
    return word if is_name(word) and word not in cell_names else None


def is_name(word):
    """Whether it may name a cell or a box."""
    if word in FORMS or word in ("cells", "thread"):
        return False
    return len(word) <= LONGEST_NAME and word.isalpha() and word.islower()


def is_number(word):
    """Whether it is a number's word: 0 alone begins with 0."""
    return word.isdigit() and len(word) <= LONGEST_NUMBER and (word == "0" or word[0] != "0")


def is_short(rows, most):
    """Whether a thread has no more fences, other rows and boxes than one may have."""
    others = many_others(rows)
    return len(rows) - others <= MOST_FENCES and others <= most and len(boxes_of_rows(rows)) <= MOST_BOXES


def many_others(rows):
    """How many rows are no fences."""
    return len([row for row in rows if row[0] != "fence"])


def most_others(many_threads):
    """How many rows that are no fences a thread may have beside so many threads."""
    return MOST_OTHERS_OF_THREE if many_threads == MOST_THREADS else MOST_OTHERS
