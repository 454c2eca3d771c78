"""Programs told as tuples: program_of and Program.plain."""

import copy
import unittest

from fencerow.building import program_of
from fencerow.rows import Program
from programs import CELLS, FENCE, FIVE_ROWS, FULL, programs


def somewhat_beyond():
    """Programs a little beyond the bounds of the texts: they are handed in as well."""
    yield (CELLS + (("w", 1),), ((),))
    yield (CELLS, (FIVE_ROWS,) * 4)
    yield (CELLS, (FIVE_ROWS + FIVE_ROWS + (FENCE,) * 7,))
    yield (CELLS, (FULL,) * 3)
    yield ((("x", 100),), ((("put", "x", 123), ("skip", "a", 12)),))
    yield ((("sevenly", 0),), ((("add", "aaaaaaa", "e", "f"), ("add", "b", "c", "d")),))
    yield ((), ())


class Building(unittest.TestCase):
    def need_plain(self, told):
        self.assertIs(type(told), tuple)
        self.assertEqual([type(part) for part in told], [tuple, tuple])
        for cell in told[0]:
            self.assertIs(type(cell), tuple)
            self.assertEqual([type(part) for part in cell], [str, int])
        for rows in told[1]:
            self.assertIs(type(rows), tuple)
            for row in rows:
                self.assertIs(type(row), tuple)
                self.assertIs(type(row[0]), str)
                self.assertLessEqual({type(part) for part in row}, {str, int})

    def test_plain_tells_what_was_told(self):
        for told in programs():
            self.assertEqual(program_of(told).plain(), told)

    def test_plain_is_tuples_texts_and_whole_numbers_throughout(self):
        for told in programs():
            self.need_plain(program_of(told).plain())

    def test_nothing_is_refused_somewhat_beyond_the_bounds(self):
        for told in somewhat_beyond():
            self.assertEqual(program_of(told).plain(), told)

    def test_a_program_is_made(self):
        self.assertIsInstance(program_of((CELLS, ((),))), Program)

    def test_cells_and_threads_stay_in_their_order(self):
        cells = (("b", 2), ("a", 1), ("c", 3))
        threads = ((("get", "z", "a"),), (), (("get", "d", "c"), ("get", "e", "b")))
        self.assertEqual(program_of((cells, threads)).plain(), (cells, threads))

    def test_threads_alike_stay_each_for_itself(self):
        told = ((("x", 0),), ((FENCE,), (FENCE,), (FENCE,)))
        self.assertEqual(program_of(told).plain(), told)


class Keeping(unittest.TestCase):
    def test_plain_tells_the_same_each_time(self):
        for told in programs():
            program = program_of(told)
            self.assertEqual([program.plain() for ask in range(3)], [told] * 3)

    def test_what_was_told_is_not_changed(self):
        for told in programs():
            before = copy.deepcopy(told)
            program_of(told).plain()
            self.assertEqual(told, before)

    def test_programs_do_not_touch_one_another(self):
        all_told = list(programs())
        made = [program_of(told) for told in all_told]
        self.assertEqual([program.plain() for program in reversed(made)], all_told[::-1])
        self.assertEqual([program.plain() for program in made], all_told)

    def test_the_same_told_twice_makes_two_programs(self):
        told = (CELLS, (FULL,))
        first = program_of(told)
        second = program_of(told)
        self.assertIsNot(first, second)
        self.assertEqual(first.plain(), second.plain())

    def test_what_is_done_later_to_what_was_handed_in_changes_nothing(self):
        row = ["put", "x", 1]
        cell = ["x", 0]
        parts = [[cell], [[row]]]
        program = program_of(parts)
        row[2] = 2
        cell[1] = 5
        parts[0].append(["y", 0])
        parts[1][0].append(["fence"])
        parts[1].append([])
        self.assertEqual(program.plain(), ((("x", 0),), ((("put", "x", 1),),)))
        self.need_tuples(program.plain())

    def need_tuples(self, told):
        if not isinstance(told, (str, int)):
            self.assertIs(type(told), tuple)
            for part in told:
                self.need_tuples(part)


if __name__ == "__main__":
    unittest.main()
