"""Reading: which texts tell a program, and by which line one is told to be none."""

import random
import re
import unittest

from fencerow.building import program_of
from fencerow.errors import BadText
from fencerow.reading import read
from fencerow.rows import Program
from fencerow.showing import shown
from programs import CELLS, FENCE, FIVE_ROWS, FORMS, FULL, FULL_OF_THREE, NINE_BEHIND, drawn_programs, programs

WORDS = ("cells", "thread", "put", "get", "swap", "add", "skip", "fence")
NO_NAMES = WORDS + ("sevenly", "X", "aB", "Ab", "a1", "a_b", "a-b", "1a", "a.", "'a", "a,b", "-", "~", "{", "`", "@", "[")
NO_NUMBERS = ("100", "999", "00", "01", "09", "000", "-1", "+1", "-0", "1.", "1_0", "0x1", "1e1", "a1", "1a", "/", ":")
# Cells, and a thread with two rows: good so far.
HEAD = "cells x 0 y 1\nthread\nput x a\nget b y\n"
GOOD_ROWS = (
    "put x 0", "put y 99", "put x a", "get a x", "get abcdef y", "swap a x 0", "swap a y 99", "swap a y a",
    "swap a y c", "add a 0 99", "add a a a", "add a 10 b", "add a c 9", "skip a 0", "fence",
)
# Good nowhere in a thread.
BAD_ROWS = (
    "put", "put x", "put x 1 2", "put x a b", "put a 1", "put 1 x", "put x x", "put x y", "put 1 1", "put a x", "put z 1",
    "get", "get a", "get a x 1", "get a x x", "get x a", "get x y", "get a a", "get a 1", "get 1 x", "get a b", "get x x",
    "swap", "swap a", "swap a x", "swap a x 1 1", "swap x a 1", "swap a x x", "swap a x y", "swap a a 1", "swap a 1 1",
    "swap 1 x 1", "swap y x 1", "swap a b c", "add", "add a", "add a 1", "add a 1 1 1", "add x 1 1", "add a x 1",
    "add a 1 x", "add 1 1 1", "add a a a a", "skip", "skip a", "skip a 0 0", "skip 0", "skip 0 0", "skip x 0", "skip a a",
    "skip a x", "skip a 10", "skip a 99", "skip a 00", "skip a 01", "skip a -1", "skip a +0", "skip 0 a", "fence 1",
    "fence a", "fence fence", "thread 1", "thread a", "thread thread", "thread put x 1", "cells", "cells z 0", "cells x 0",
    "Fence", "PUT x 1", "Thread", "fences", "fence,", "fence;", "x", "1", "x 0", "putx 1", "put x,1", "put x=1", "get a=x",
    "out x 1", "put x 1;", "\"put x 1\"", "put\tx 1", "fence\t", "\t", "\tfence", "fence #\t", "#\t", "# a\tb", "put x\t1",
)
BAD_CELLS = (
    "cells", "cell x 0", "Cells x 0", "cells x", "cells 0", "cells 0 x", "cells x y", "cells 0 0", "cells x 0 y",
    "cells x 0 1", "cells x 0 y 1 z", "cells x 0 x 0", "cells x 0 x 1", "cells x 0 y 1 x 2", "cells y 0 x 1 x 2",
    "cells a 0 b 0 c 0 d 0", "cells x y 0", "cells x 0 1 y", "cells x=0", "cells x,0", "x 0", "cells x 0\t", "cells\tx 0",
    "cells cells x 0", "cells x 0 thread", "cells x 0 # \t", "thread", "fence", "put x 1", "get a x", "0", "x",
)


class Reading(unittest.TestCase):
    def need_read(self, text, told):
        program = read(text)
        self.assertIsInstance(program, Program)
        self.assertEqual(program.plain(), told, text)

    def need_refused(self, text, line):
        with self.assertRaises(BadText, msg=repr(text)) as caught:
            read(text)
        self.assertEqual((caught.exception.line, type(caught.exception.line)), (line, int), repr(text))


class GoodTexts(Reading):
    def test_each_form_of_row(self):
        text = "\n".join(("cells x 0 y 99", "thread", "put x 1", "get a y", "swap b x a", "add c 10 b", "skip a 3", "fence",
                          "fence", "fence", "thread", "put y a", "swap a y 0", "add a a 99", "skip a 0"))
        self.need_read(text, (
            (("x", 0), ("y", 99)),
            ((("put", "x", 1), ("get", "a", "y"), ("swap", "b", "x", "a"), ("add", "c", 10, "b"), ("skip", "a", 3),
              FENCE, FENCE, FENCE),
             (("put", "y", "a"), ("swap", "a", "y", 0), ("add", "a", "a", 99), ("skip", "a", 0)))))

    def test_one_to_three_cells_and_threads(self):
        self.need_read("cells x 0\nthread", ((("x", 0),), ((),)))
        self.need_read("cells b 10 a 9\nthread\nthread\nfence", ((("b", 10), ("a", 9)), ((), (FENCE,))))
        self.need_read("cells c 0 b 0 a 0\nthread\nget z c\nthread\nget z b\nthread\nget z a",
                       ((("c", 0), ("b", 0), ("a", 0)), ((("get", "z", "c"),), (("get", "z", "b"),), (("get", "z", "a"),))))

    def test_blanks_remarks_and_empty_lines_mean_nothing(self):
        told = ((("x", 0), ("y", 1)), ((("put", "x", 1), ("get", "a", "y")), (FENCE, ("add", "a", 1, "b"))))
        self.need_read("cells x 0 y 1\nthread\nput x 1\nget a y\nthread\nfence\nadd a 1 b", told)
        self.need_read("#cells\n\n   cells   x 0  y   1   \n thread\n  \n   # put y 1\nput  x 1# put y 1\n get a    y #\n"
                       "#\n thread #thread\nfence#fence\n\n\n  add a 1 b    # ~!\"$&'()*+,-./:;<=>?@[]^_`{|}\n\n\n", told)

    def test_line_feeds_at_the_end(self):
        for end in ("", "\n", "\n\n", "\n\n\n", "\n ", "\n#", "\n # \n"):
            self.need_read("cells x 0\nthread\nfence" + end, ((("x", 0),), ((FENCE,),)))
            self.need_read("cells x 0\nthread" + end, ((("x", 0),), ((),)))

    def test_a_remark_cuts_a_word(self):
        self.need_read("cells x 1#2\nthread\nput x 1#1", ((("x", 1),), ((("put", "x", 1),),)))
        self.need_read("cells x 0\nthread\nget a x#y", ((("x", 0),), ((("get", "a", "x"),),)))

    def test_shown_and_spread_texts_read_as_the_same(self):
        lot = random.Random(5)
        for told in list(programs()) + list(drawn_programs(5, 300, 5)):
            text = shown(program_of(told))
            self.need_read(text, told)
            self.need_read(spread(lot, text), told)

    def test_the_most_rows(self):
        for told in ((CELLS, (FULL,)), (CELLS, (FULL, FULL)), (CELLS, (FULL_OF_THREE,) * 3), (CELLS, (NINE_BEHIND,) * 2)):
            self.need_read(shown(program_of(told)), told)
        self.need_read("cells x 0\nthread" + "\nput x 1" * 5 + "\nfence" * 5, ((("x", 0),), ((("put", "x", 1),) * 5 + (FENCE,) * 5,)))
        self.need_read("cells x 0\nthread" + "\nfence" * 5 + "\nput x 1" * 5 + "\nthread" + "\nput x 1" * 5,
                       ((("x", 0),), ((FENCE,) * 5 + (("put", "x", 1),) * 5, (("put", "x", 1),) * 5)))

    def test_four_boxes_and_the_same_in_two_threads(self):
        rows = (("add", "a", "b", "c"), ("put", "x", "d"), ("add", "d", "c", "b"))
        other = (("swap", "e", "x", "f"), ("skip", "g", 0), ("get", "a", "x"))
        for threads in ((rows,), (rows, rows), (rows, other), (rows, other, rows)):
            told = ((("x", 0),), threads)
            self.need_read(shown(program_of(told)), told)

    def test_a_cells_number_and_all_numbers(self):
        for number in range(100):
            self.need_read(f"cells x {number}\nthread\nput x {number}", ((("x", number),), ((("put", "x", number),),)))

    def test_skips_just_to_the_end(self):
        for behind in range(6):
            rows = (("skip", "a", behind),) + (FENCE,) * behind
            self.need_read(shown(program_of((CELLS, (rows, rows)))), (CELLS, (rows, rows)))
        self.need_read(shown(program_of((CELLS, (NINE_BEHIND,)))), (CELLS, (NINE_BEHIND,)))

    def test_names(self):
        for name in ("a", "z", "ab", "abcdef", "zzzzzz", "cell", "fences", "skips", "puts", "adds", "swaps", "gets", "out",
                     "ad", "put" * 2, "none", "true"):
            self.need_read(f"cells {name} 0\nthread\nput {name} 1", (((name, 0),), ((("put", name, 1),),)))
            self.need_read(f"cells x 0\nthread\nget {name} x", ((("x", 0),), ((("get", name, "x"),),)))

    def test_good_rows(self):
        for row in GOOD_ROWS:
            read(HEAD + row + "\nthread\n" + row)

    def test_a_cell_need_not_be_used_and_a_box_may_have_its_letters(self):
        self.need_read("cells ab 0 ba 1\nthread\nget a ab\nget b ba",
                       ((("ab", 0), ("ba", 1)), ((("get", "a", "ab"), ("get", "b", "ba")),)))

    def test_the_same_text_reads_as_the_same_each_time(self):
        text = "cells x 0\nthread\nput x 1"
        programs_read = [read(text) for ask in range(3)]
        read("cells y 3\nthread\nfence")
        self.assertEqual([program.plain() for program in programs_read], [((("x", 0),), ((("put", "x", 1),),))] * 3)


class Refusals(Reading):
    def test_what_is_no_str(self):
        for thing in (None, 0, 1, -5, True, False, [], ["cells x 0", "thread"], (), ("cells x 0\nthread",), {}, b"cells x 0",
                      program_of((CELLS, ((),)))):
            self.need_refused(thing, 0)

    def test_no_cells(self):
        for text, line in (("", 2), ("\n", 3), ("\n\n\n", 5), ("   ", 2), ("#", 2), ("# cells x 0\n# thread", 3), (" \n#\n", 4)):
            self.need_refused(text, line)

    def test_no_threads(self):
        for text, line in (("cells x 0", 2), ("cells x 0\n", 3), ("\n\ncells x 0", 4), ("cells x 0\n#thread\n\n", 5),
                           ("cells x 0 y 1 z 2 # thread", 2)):
            self.need_refused(text, line)

    def test_another_first_line(self):
        for row in BAD_CELLS:
            self.need_refused(row, 1)
            self.need_refused(row + "\nthread\nfence", 1)
            self.need_refused("# a\n\n" + row + "\ncells x 0\nthread", 3)

    def test_names_that_are_none(self):
        for name in NO_NAMES:
            self.need_refused(f"cells {name} 0\nthread", 1)
            self.need_refused(f"cells x 0 {name} 0\nthread", 1)
            for row in (f"put x {name}", f"get {name} x", f"swap {name} x 1", f"swap a x {name}", f"add {name} 1 1",
                        f"add a {name} 1", f"add a 1 {name}", f"skip {name} 0", f"put {name} 1", f"get a {name}"):
                self.need_refused(HEAD + row, 5)

    def test_numbers_that_are_none(self):
        for number in NO_NUMBERS:
            self.need_refused(f"cells x {number}\nthread", 1)
            self.need_refused(f"cells x 0 y {number}\nthread", 1)
            for row in (f"put x {number}", f"swap a x {number}", f"add a {number} 1", f"add a 1 {number}", f"skip a {number}"):
                self.need_refused(HEAD + row + "\nfence" * 5, 5)

    def test_rows_that_are_none(self):
        for row in BAD_ROWS:
            self.need_refused(HEAD + row, 5)
            self.need_refused(HEAD + "  " + row + " ", 5)
            self.need_refused("#\n" + HEAD + row + "\nfence\nthread\nnothing", 6)
            self.need_refused(HEAD + "fence\nthread\nthread\n" + row, 8)

    def test_a_row_ahead_of_any_thread(self):
        for row in GOOD_ROWS:
            self.need_refused("cells x 0 y 0\n" + row + "\nthread", 2)
            self.need_refused("\ncells x 0 y 0\n\n" + row, 4)

    def test_a_second_cells(self):
        for row in ("cells x 0", "cells z 0", "cells"):
            self.need_refused("cells x 0\n" + row + "\nthread", 2)
            self.need_refused("cells x 0\nthread\n" + row, 3)
            self.need_refused("cells x 0\nthread\nfence\n" + row + "\nthread", 4)

    def test_a_fourth_thread(self):
        self.need_refused("cells x 0\nthread\nthread\nthread\nthread", 5)
        self.need_refused("cells x 0\nthread\nfence\nthread\nthread\nfence\n\nthread", 8)

    def test_too_many_rows_with_one_and_two_threads(self):
        put = "put x 1\n"
        fence = "fence\n"
        for ahead in ("cells x 0\nthread\n", "cells x 0\nthread\n" + put * 5 + "thread\n"):
            first = ahead.count("\n") + 1
            self.need_refused(ahead + put * 6, first + 5)
            self.need_refused(ahead + fence * 6, first + 5)
            self.need_refused(ahead + (put + fence) * 5 + put, first + 10)
            self.need_refused(ahead + (put + fence) * 5 + fence, first + 10)
            self.need_refused(ahead + fence * 5 + put * 7 + "thread", first + 10)
            self.need_refused(ahead + put * 5 + fence * 6 + "nothing", first + 10)

    def test_too_many_rows_with_three_threads(self):
        put = "put x 1\n"
        fence = "fence\n"
        three = "cells x 0\nthread\nthread\nthread\n"
        self.need_refused(three + put * 4, 8)
        self.need_refused(three + fence * 5 + put * 4, 13)
        self.need_refused(three + fence * 6, 10)
        self.need_refused("cells x 0\nthread\n" + put * 4 + "thread\nthread\n", 8)
        self.need_refused("cells x 0\nthread\n" + put * 5 + "thread\nthread\nnothing", 9)
        self.need_refused("cells x 0\nthread\nthread\n" + put * 4 + "thread", 8)
        self.need_refused("cells x 0\nthread\nthread\n" + put * 4 + "\n#\nthread", 10)
        self.need_refused("cells x 0\nthread\n" + put * 4 + "thread\n" + put * 4 + fence + "thread", 13)
        self.need_refused("cells x 0\nthread\n" + put * 4 + "thread\n" + put * 6 + "thread", 13)
        self.need_read(three + fence * 5 + put * 3, ((("x", 0),), ((), (), (FENCE,) * 5 + (("put", "x", 1),) * 3)))

    def test_a_fifth_box_where_it_first_stands(self):
        for last in ("put x e", "get e x", "swap e x 1", "swap a x e", "add e 1 1", "add a e 1", "add a 1 e", "skip e 0"):
            self.need_refused("cells x 0\nthread\nadd a b c\nput x d\nget a x\n" + last + "\n", 6)
            self.need_refused("cells x 0\nthread\nadd a b c\nput x d\n" + last + "\nget a x\n", 5)
            self.need_refused("cells x 0\nthread\nadd f g h\nget i x\nthread\nadd a b c\nput x d\n" + last + "\n", 8)
        self.need_refused("cells x 0\nthread\nadd a b c\nadd d e f", 4)
        self.need_refused("cells x 0\nthread\nadd a b c\nfence\nswap d x e", 5)

    def test_a_skip_beyond_the_end(self):
        self.need_refused("cells x 0\nthread\nskip a 1", 3)
        self.need_refused("cells x 0\nthread\nfence\nskip a 1\nthread\nfence", 4)
        self.need_refused("cells x 0\nthread\nskip a 3\nfence\nput x 1", 3)
        self.need_refused("cells x 0\nthread\nskip a 2\nfence # one row behind\n\n# none\n", 3)
        self.need_refused("cells x 0\nthread\nskip a 9" + "\nput x 1" * 4 + "\nfence" * 4, 3)
        self.need_refused("cells x 0\nthread\nthread\n\nskip a 9\nthread\nfence", 5)

    def test_of_two_such_skips_the_first(self):
        self.need_refused("cells x 0\nthread\nskip a 1\nskip a 1", 4)
        self.need_refused("cells x 0\nthread\nskip a 2\nskip a 1", 3)
        self.need_refused("cells x 0\nthread\nskip a 1\nfence\nthread\n\nskip a 2\nfence\nthread\nskip a 1", 7)

    def test_such_a_skip_goes_behind_all_else(self):
        skip = "cells x 0\nthread\nskip a 1\n"
        for rest, line in (("thread\nnothing", 5), ("thread\nthread\nthread", 6), ("thread\nput x 100", 5), ("skip a 10", 4),
                           ("thread\nadd a b c\nadd d e f", 6), ("thread\nget x x", 5), ("thread\n" + "fence\n" * 6, 10),
                           ("thread\n\n#\t", 6), ("thread\nskip b 1\ncells x 0", 6)):
            self.need_refused(skip + rest, line)
        self.need_refused("cells x 0\nnothing\nthread\nskip a 1", 2)

    def test_the_first_of_two_bad_lines(self):
        self.need_refused("cells x 0\nthread\nput x 100\nput y 1", 3)
        self.need_refused("nothing\nnothing", 1)
        self.need_refused("cells x 0\n\nthread 1\nfence 1", 3)


NAME = r"[a-z]{1,6}"
NUMBER = r"(?:0|[1-9][0-9]?)"
SHAPES = {
    "put": rf"put ({NAME}) ({NAME}|{NUMBER})", "get": rf"get ({NAME}) ({NAME})",
    "swap": rf"swap ({NAME}) ({NAME}) ({NAME}|{NUMBER})", "add": rf"add ({NAME}) ({NAME}|{NUMBER}) ({NAME}|{NUMBER})",
    "skip": rf"skip ({NAME}) ([0-9])", "fence": "fence", "thread": "thread",
}
PLACES = {"put": ((0,), (1,)), "get": ((1,), (0,)), "swap": ((1,), (0, 2)), "add": ((), (0, 1, 2)), "skip": ((), (0,))}


def asked_line(text):
    """The line that the document asks for, found otherwise: by the least lines that no good text begins with."""
    lines = text.split("\n")
    for many in range(1, len(lines) + 1):
        if not may_begin(lines[:many]):
            return many
    left = [(number, words) for number, words in enumerate(map(words_of, lines), start=1) if words]
    if not any(words == "thread" for number, words in left):
        return len(lines) + 1
    for place, (number, words) in enumerate(left):
        behind = [later for count, later in left[place + 1:]] + ["thread"]
        if words.startswith("skip ") and int(words[-1]) > behind.index("thread"):
            return number
    return None


def words_of(line):
    return re.sub(" +", " ", line.split("#")[0]).strip(" ")


def may_begin(lines):
    """Whether some good text begins with these lines."""
    if re.search(r"[^ -~]", "".join(lines)):
        return False
    left = [words for words in map(words_of, lines) if words]
    if not left:
        return True
    if not re.fullmatch(rf"cells(?: {NAME} {NUMBER}){{1,3}}", left[0]):
        return False
    cells = left[0].split(" ")[1::2]
    if len(set(cells)) < len(cells) or set(cells) & set(WORDS) or left[1:2] not in ([], ["thread"]):
        return False
    threads = [part.split("\n")[1:] for part in re.split("(?m)^thread$", "\n".join(left[1:]) + "\n")[1:]]
    threads = [[row for row in rows if row] for rows in threads]
    most = 3 if len(threads) == 3 else 5
    return len(threads) <= 3 and all(is_thread(rows, cells, most) for rows in threads)


def is_thread(rows, cells, most):
    found = [re.fullmatch(SHAPES.get(row.split(" ")[0], "(?!)"), row) for row in rows]
    if not all(found):
        return False
    boxes = set()
    for row, parts in zip(rows, found):
        at_cells, at_boxes = PLACES.get(row.split(" ")[0], ((), ()))
        if any(parts[at + 1] not in cells for at in at_cells):
            return False
        boxes |= {parts[at + 1] for at in at_boxes if parts[at + 1].isalpha()}
    fences = rows.count("fence")
    return not boxes & set(WORDS + tuple(cells)) and len(boxes) <= 4 and fences <= 5 and len(rows) - fences <= most


def spread(lot, text):
    """The text with blanks, remarks and lines that mean nothing."""
    lines = []
    for line in text.split("\n"):
        lines += lot.choices(("", "   ", "# thread", " #"), k=lot.choice((0, 0, 0, 1, 2)))
        words = "".join(word + " " * lot.randint(1, 3) for word in line.split(" "))
        lines.append(" " * lot.randint(0, 2) + words + lot.choice(("", "", "# fence", "#")))
    return "\n".join(lines) + lot.choice(("", "\n", "\n\n", "\n#"))


def marred(lot, text):
    """The text with one to three things done to it that may make it none."""
    for count in range(lot.randint(1, 3)):
        lines = text.split("\n")
        at = lot.randrange(len(lines))
        words = lines[at].split(" ")
        some = lot.choice(lines)
        done = lot.randrange(8)
        if done == 0:
            words[lot.randrange(len(words))] = lot.choice(("x", "y", "a", "b", "e", "f", "0", "9", "10", "100", "put", "Z"))
        elif done == 1:
            words.insert(lot.randrange(len(words) + 1), lot.choice(("x", "a", "0", "fence", "#")))
        elif done == 2:
            words.pop(lot.randrange(len(words)))
        lines[at] = " ".join(words)
        if done == 3:
            lines.pop(at)
        elif done in (4, 5):
            lines.insert(at, lot.choice((some, "thread", "fence", "put x e", "get f y", "skip a 4", "add c d e")))
        elif done == 6:
            lines = lines[:at]
        elif done == 7:
            lines = lines[:at + 1] + lines[at:]
        text = "\n".join(lines)
    return text


class AgainstAnotherReading(Reading):
    def test_marred_texts(self):
        lot = random.Random(11)
        told_lines = []
        for told in drawn_programs(12, 3000, 5):
            text = marred(lot, shown(program_of(told)))
            text = spread(lot, text) if lot.random() < 0.3 else text
            line = asked_line(text)
            told_lines.append(line)
            if line is None:
                again = read(text)
                self.assertEqual(read(shown(again)).plain(), again.plain())
            else:
                self.need_refused(text, line)
        # Both kinds are there in number, or the lot has shown nothing.
        self.assertGreater(told_lines.count(None), 200)
        self.assertGreater(len(told_lines) - told_lines.count(None), 1000)

    def test_each_beginning_of_a_text(self):
        text = "cells x 0 y 10 # a\n\nthread\n put x 1\nget a y\nskip a 1\nfence\nthread # b\nadd a b c\nput y d\nthread\nfence\n"
        for many in range(len(text) + 1):
            line = asked_line(text[:many])
            if line is None:
                read(text[:many])
            else:
                self.need_refused(text[:many], line)

    def test_the_drawn_programs_are_good(self):
        for told in drawn_programs(13, 200, 5):
            self.assertIsNone(asked_line(shown(program_of(told))))


if __name__ == "__main__":
    unittest.main()
