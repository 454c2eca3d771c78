"""States: the first one, where a state is over, and outcomes."""

import unittest

from fencerow.building import program_of
from fencerow.reading import read
from fencerow.states import begun, is_over, outcome_of
from programs import CELLS, FENCE


def first_boxes(*rows):
    """How many boxes a thread of these rows has at first."""
    return len(begun(program_of((CELLS, (rows,))))[1][0][1])


class First(unittest.TestCase):
    def test_all_is_at_0_and_cells_are_as_told(self):
        program = read("cells x 3 y 0 z 99\nthread\nput x a\nget b y\nthread\nthread\nfence\nput z 1")
        self.assertEqual(begun(program), ((3, 0, 99), ((0, (0, 0), ()), (0, (), ()), (0, (), ()))))

    def test_one_cell_and_one_thread_without_rows(self):
        self.assertEqual(begun(read("cells x 7\nthread")), ((7,), ((0, (), ()),)))

    def test_where_boxes_stand(self):
        self.assertEqual(first_boxes(), 0)
        self.assertEqual(first_boxes(FENCE, ("put", "x", 1)), 0)
        for row in (("put", "x", "a"), ("get", "a", "x"), ("swap", "a", "x", 1), ("swap", "a", "x", "a"), ("add", "a", 1, 2),
                    ("add", "a", "a", "a"), ("skip", "a", 0)):
            self.assertEqual(first_boxes(row), 1, row)
        for row in (("swap", "a", "x", "b"), ("add", "a", "b", 1), ("add", "a", 1, "b"), ("add", "a", "b", "b")):
            self.assertEqual(first_boxes(row), 2, row)
        self.assertEqual(first_boxes(("add", "a", "b", "c")), 3)
        self.assertEqual(first_boxes(("add", "a", "b", "c"), ("put", "x", "d"), ("get", "a", "y"), ("skip", "d", 0)), 4)

    def test_threads_have_boxes_of_their_own(self):
        program = read("cells x 0\nthread\nget a x\nthread\nget a x\nget b x")
        self.assertEqual(begun(program)[1], ((0, (0,), ()), (0, (0, 0), ())))

    def test_it_is_made_of_tuples(self):
        state = begun(read("cells x 0\nthread\nget a x"))
        for part in (state, state[0], state[1], state[1][0], state[1][0][1], state[1][0][2]):
            self.assertIs(type(part), tuple)

    def test_it_is_the_same_each_time(self):
        program = read("cells x 0\nthread\nget a x")
        self.assertEqual(begun(program), begun(program))


class Over(unittest.TestCase):
    def test_where_no_row_is_left_and_nothing_waits(self):
        program = read("cells x 0\nthread\nput x 1\nfence\nthread\nget a x")
        for state, over in (
                (((0,), ((0, (), ()), (0, (0,), ()))), False),
                (((1,), ((2, (), ()), (0, (0,), ()))), False),
                (((0,), ((0, (), ()), (1, (0,), ()))), False),
                (((0,), ((1, (), ((0, 1),)), (1, (0,), ()))), False),
                (((1,), ((1, (), ()), (1, (0,), ()))), False),
                (((1,), ((2, (), ()), (1, (0,), ()))), True),
                (((1,), ((2, (), ()), (1, (1,), ()))), True)):
            self.assertIs(is_over(program, state), over, state)

    def test_a_put_that_waits_is_left_behind_all_rows(self):
        program = read("cells x 0\nthread\nput x 1\nthread\nput x 2")
        self.assertIs(is_over(program, ((0,), ((1, (), ((0, 1),)), (1, (), ())))), False)
        self.assertIs(is_over(program, ((1,), ((1, (), ()), (1, (), ((0, 2),))))), False)
        self.assertIs(is_over(program, ((2,), ((1, (), ()), (1, (), ())))), True)

    def test_threads_without_rows_are_over_at_once(self):
        for text in ("cells x 0\nthread", "cells x 0\nthread\nthread\nthread"):
            program = read(text)
            self.assertIs(is_over(program, begun(program)), True)


class Outcomes(unittest.TestCase):
    def test_the_cells_and_each_threads_boxes(self):
        self.assertEqual(outcome_of(((1, 2), ((3, (4, 5), ()), (0, (), ()), (6, (7,), ())))), ((1, 2), ((4, 5), (), (7,))))
        self.assertEqual(outcome_of(((0,), ((0, (), ()),))), ((0,), ((),)))

    def test_it_is_made_of_tuples(self):
        outcome = outcome_of(begun(read("cells x 0\nthread\nget a x")))
        for part in (outcome, outcome[0], outcome[1], outcome[1][0]):
            self.assertIs(type(part), tuple)


if __name__ == "__main__":
    unittest.main()
