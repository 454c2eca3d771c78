"""Showing: the texts of rows and of whole programs."""

import unittest

from fencerow.building import program_of
from fencerow.reading import read
from fencerow.showing import row_text, shown
from programs import CELLS, FENCE, FIVE_ROWS, FULL_OF_THREE, NINE_BEHIND, drawn_programs, programs

ROW_TEXTS = (
    (("put", "x", 1), "put x 1"), (("put", "x", 0), "put x 0"), (("put", "abcdef", "a"), "put abcdef a"),
    (("get", "a", "x"), "get a x"), (("get", "zzzzzz", "y"), "get zzzzzz y"),
    (("swap", "a", "x", 99), "swap a x 99"), (("swap", "a", "x", "b"), "swap a x b"),
    (("add", "a", 1, 20), "add a 1 20"), (("add", "a", "b", "c"), "add a b c"), (("add", "a", 0, "a"), "add a 0 a"),
    (("skip", "a", 0), "skip a 0"), (("skip", "a", 9), "skip a 9"),
    (FENCE, "fence"),
)


class Rows(unittest.TestCase):
    def test_each_form(self):
        for row, text in ROW_TEXTS:
            self.assertEqual(row_text(row), text)

    def test_somewhat_beyond_the_bounds(self):
        self.assertEqual(row_text(("put", "sevenly", 100)), "put sevenly 100")
        self.assertEqual(row_text(("skip", "a", 12)), "skip a 12")

    def test_a_rows_text_is_its_line_in_the_programs_text(self):
        for row, text in ROW_TEXTS:
            rows = (row,) + (FENCE,) * 9
            self.assertEqual(shown(program_of((CELLS, (rows,)))).split("\n")[2], text)


class Programs(unittest.TestCase):
    def test_line_by_line(self):
        self.assertEqual(shown(program_of(((("x", 0),), ((),)))), "cells x 0\nthread")
        self.assertEqual(shown(program_of((CELLS, ((), (FENCE,), ())))),
                         "cells x 0 y 99 abcdef 7\nthread\nthread\nfence\nthread")
        self.assertEqual(shown(program_of((CELLS[:2], (FIVE_ROWS, NINE_BEHIND[:1] + NINE_BEHIND[-3:])))), "\n".join((
            "cells x 0 y 99", "thread", "get a x", "skip a 1", "put x a", "add b a 1", "swap c x b",
            "thread", "skip a 9", "fence", "fence", "fence")))

    def test_what_is_shown_reads_as_the_same(self):
        for told in list(programs()) + list(drawn_programs(3, 300, 5)):
            self.assertEqual(read(shown(program_of(told))).plain(), told)

    def test_a_text_reads_and_shows_without_what_means_nothing(self):
        text = "\n#\n  cells  x  0   y 1#\n\n thread # a\n   put x   a\n\n#\nthread\n\n"
        self.assertEqual(shown(read(text)), "cells x 0 y 1\nthread\nput x a\nthread")

    def test_no_blank_no_remark_and_no_line_more(self):
        for told in programs():
            lines = shown(program_of(told)).split("\n")
            self.assertEqual(len(lines), 1 + sum(1 + len(rows) for rows in told[1]))
            for line in lines:
                self.assertEqual(line, " ".join(line.split()))
                self.assertNotIn("#", line)

    def test_nothing_is_changed_by_showing(self):
        told = (CELLS, (FULL_OF_THREE,) * 3)
        program = program_of(told)
        self.assertEqual(shown(program), shown(program))
        self.assertEqual(program.plain(), told)


if __name__ == "__main__":
    unittest.main()
