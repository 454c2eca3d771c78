"""Steps: which choices can be done, what each does, and what is refused."""

import unittest

from fencerow.building import program_of
from fencerow.errors import BadChoice
from fencerow.reading import read
from fencerow.states import begun, is_over, outcome_of
from fencerow.steps import after, can, walked
from programs import FENCE, drawn_programs

TWO = read("cells x 0 y 0\nthread\nput x 1\nget a y\nthread\nput y 1\nget b x")
NO_CHOICES = (-1, -2, -3, 10 ** 9, -10 ** 9, 10 ** 6000, True, False, None, "", "0", "1", [], [0], [[0]], (), (0,), {}, {0: 1})


def one_thread(*rows, cells=(("x", 5), ("y", 7))):
    return program_of((cells, (rows,)))


class Refusing(unittest.TestCase):
    def need_bad(self, choice, ask, *handed):
        with self.assertRaises(BadChoice) as caught:
            ask(*handed)
        told = caught.exception.choice
        self.assertEqual((told, type(told)), (choice, type(choice)))


class Can(unittest.TestCase):
    def test_rows_and_outs_rising(self):
        self.assertEqual(can(TWO, begun(TWO)), [0, 2])
        self.assertEqual(can(TWO, walked(TWO, [0])), [0, 1, 2])
        self.assertEqual(can(TWO, walked(TWO, [2])), [0, 2, 3])
        self.assertEqual(can(TWO, walked(TWO, [0, 2])), [0, 1, 2, 3])
        self.assertEqual(can(TWO, walked(TWO, [0, 0, 2])), [1, 2, 3])
        self.assertEqual(can(TWO, walked(TWO, [0, 0, 2, 2])), [1, 3])
        self.assertEqual(can(TWO, walked(TWO, [0, 0, 2, 2, 1])), [3])
        self.assertEqual(can(TWO, walked(TWO, [0, 0, 2, 2, 1, 3])), [])

    def test_three_threads(self):
        program = read("cells x 0\nthread\nthread\nput x 1\nthread\nput x 2\nput x 3")
        self.assertEqual(can(program, begun(program)), [2, 4])
        self.assertEqual(can(program, walked(program, [4, 2])), [3, 4, 5])

    def test_a_fence_and_a_swap_wait_for_their_own_thread_alone(self):
        for row in ("fence", "swap a x 1"):
            program = read(f"cells x 0 y 0\nthread\nput y 1\nput x 1\n{row}\nthread\nput x 2\nput x 3")
            self.assertEqual(can(program, walked(program, [0, 0])), [1, 2])
            self.assertEqual(can(program, walked(program, [0, 0, 1])), [1, 2])
            self.assertEqual(can(program, walked(program, [0, 0, 1, 1])), [0, 2])
            self.assertEqual(can(program, walked(program, [2, 2, 0, 0, 1, 1])), [0, 3])

    def test_other_rows_do_not_wait(self):
        for row in ("put x 2", "get a x", "add a 1 1", "skip a 0"):
            program = read(f"cells x 0\nthread\nput x 1\n{row}")
            self.assertEqual(can(program, walked(program, [0])), [0, 1], row)

    def test_without_waiting(self):
        program = read("cells x 0\nthread\nput x 1\nfence\nput x 2\nswap a x 3\nthread\nput x 4")
        for way, choices in (([], [0, 2]), ([0], [0, 2]), ([0, 0], [0, 2]), ([0, 0, 0], [0, 2]), ([2], [0]), ([0, 0, 0, 0], [2]),
                             ([0, 0, 2, 0, 0], [])):
            self.assertEqual(can(program, walked(program, way, False), False), choices, way)
            self.assertEqual(can(program, walked(program, way, waits=False), waits=False), choices, way)

    def test_none_of_threads_without_rows(self):
        program = read("cells x 0\nthread\nthread")
        self.assertEqual(can(program, begun(program)), [])
        self.assertEqual(can(program, begun(program), False), [])

    def test_what_it_told_is_the_askers_own(self):
        state = walked(TWO, [0])
        told = can(TWO, state)
        told.append(7)
        told[0] = 9
        self.assertEqual(can(TWO, state), [0, 1, 2])
        other = can(TWO, state)
        other.clear()
        self.assertEqual(can(TWO, state), [0, 1, 2])
        self.assertEqual(after(TWO, state, 0), walked(TWO, [0, 0]))
        self.assertIs(type(told), list)


class Rows(unittest.TestCase):
    """Each form of row, done from some state on by thread 0; the cells there are 5 and 7."""

    def need_step(self, row, boxes, waiting, behind, waits=True, cells=(5, 7), many_behind=0):
        program = one_thread(("add", "a", "b", "c"), row, *[FENCE] * many_behind)
        state = (cells, ((1, boxes, waiting),))
        self.assertEqual(after(program, state, 0, waits), behind)

    def test_put(self):
        self.need_step(("put", "y", 9), (1, 2, 3), (), ((5, 7), ((2, (1, 2, 3), ((1, 9),)),)))
        self.need_step(("put", "x", "b"), (1, 2, 3), (), ((5, 7), ((2, (1, 2, 3), ((0, 2),)),)))
        self.need_step(("put", "x", 9), (1, 2, 3), ((1, 4), (0, 6)), ((5, 7), ((2, (1, 2, 3), ((1, 4), (0, 6), (0, 9))),)))
        self.need_step(("put", "y", "c"), (1, 2, 3), ((1, 3),), ((5, 7), ((2, (1, 2, 3), ((1, 3), (1, 3))),)))

    def test_put_without_waiting(self):
        self.need_step(("put", "y", 9), (1, 2, 3), (), ((5, 9), ((2, (1, 2, 3), ()),)), False)
        self.need_step(("put", "x", "b"), (1, 2, 3), (), ((2, 7), ((2, (1, 2, 3), ()),)), False)
        self.need_step(("put", "x", 0), (1, 2, 3), (), ((0, 7), ((2, (1, 2, 3), ()),)), False)

    def test_puts_wait_where_nothing_is_told_of_waiting(self):
        waiting = ((0, 0), ((1, (0,), ((0, 1),)), (0, (0,), ())))
        at_once = ((1, 0), ((1, (0,), ()), (0, (0,), ())))
        self.assertEqual(after(TWO, begun(TWO), 0), waiting)
        self.assertEqual(walked(TWO, [0]), waiting)
        self.assertEqual(after(TWO, begun(TWO), 0, waits=False), at_once)
        self.assertEqual(walked(TWO, [0], waits=False), at_once)

    def test_get(self):
        for waits in (True, False):
            self.need_step(("get", "a", "x"), (1, 2, 3), (), ((5, 7), ((2, (5, 2, 3), ()),)), waits)
            self.need_step(("get", "c", "y"), (1, 2, 3), (), ((5, 7), ((2, (1, 2, 7), ()),)), waits)

    def test_get_sees_the_newest_of_its_own_that_waits(self):
        self.need_step(("get", "b", "x"), (1, 2, 3), ((0, 8),), ((5, 7), ((2, (1, 8, 3), ((0, 8),)),)))
        self.need_step(("get", "b", "x"), (1, 2, 3), ((0, 0),), ((5, 7), ((2, (1, 0, 3), ((0, 0),)),)))
        waiting = ((0, 8), (0, 4), (1, 6))
        self.need_step(("get", "b", "x"), (1, 2, 3), waiting, ((5, 7), ((2, (1, 4, 3), waiting),)))
        self.need_step(("get", "b", "x"), (1, 2, 3), waiting[2:], ((5, 7), ((2, (1, 5, 3), waiting[2:]),)))

    def test_get_does_not_see_what_waits_elsewhere(self):
        program = read("cells x 0\nthread\nput x 1\nthread\nget a x")
        self.assertEqual(walked(program, [0, 2])[1][1], (1, (0,), ()))
        self.assertEqual(walked(program, [0, 1, 2])[1][1], (1, (1,), ()))

    def test_swap(self):
        for waits in (True, False):
            self.need_step(("swap", "a", "x", 9), (1, 2, 3), (), ((9, 7), ((2, (5, 2, 3), ()),)), waits)
            self.need_step(("swap", "b", "y", "c"), (1, 2, 3), (), ((5, 3), ((2, (1, 7, 3), ()),)), waits)

    def test_swap_with_its_own_box(self):
        for waits in (True, False):
            self.need_step(("swap", "b", "x", "b"), (1, 2, 3), (), ((2, 7), ((2, (1, 5, 3), ()),)), waits)

    def test_swap_goes_to_the_cell_past_what_waits_elsewhere(self):
        program = read("cells x 0\nthread\nput x 1\nthread\nswap a x 2")
        self.assertEqual(walked(program, [0, 2]), ((2,), ((1, (), ((0, 1),)), (1, (0,), ()))))
        self.assertEqual(walked(program, [0, 2, 1]), ((1,), ((1, (), ()), (1, (0,), ()))))

    def test_add(self):
        for left, right, added in ((0, 0, 0), (1, 2, 3), (49, 50, 99), (50, 50, 0), (1, 99, 0), (99, 2, 1), (99, 99, 98), (0, 99, 99)):
            for waits in (True, False):
                behind = ((5, 7), ((2, (added, left, right), ()),))
                self.need_step(("add", "a", "b", "c"), (1, left, right), (), behind, waits)
                self.need_step(("add", "a", left, right), (1, left, right), (), behind, waits)
                self.need_step(("add", "a", left, "c"), (1, left, right), (), behind, waits)
                self.need_step(("add", "a", "b", right), (1, left, right), (), behind, waits)

    def test_add_to_one_of_its_own_values(self):
        self.need_step(("add", "a", "a", "a"), (60, 2, 3), (), ((5, 7), ((2, (20, 2, 3), ()),)))
        self.need_step(("add", "b", 1, "b"), (1, 2, 3), ((0, 1),), ((5, 7), ((2, (1, 3, 3), ((0, 1),)),)))

    def test_add_takes_off_100_once(self):
        self.need_step(("add", "a", 150, 160), (1, 2, 3), (), ((5, 7), ((2, (210, 2, 3), ()),)))

    def test_skip(self):
        for waits in (True, False):
            for many in range(4):
                self.need_step(("skip", "b", many), (1, 0, 3), (), ((5, 7), ((2 + many, (1, 0, 3), ()),)), waits, many_behind=3)
                self.need_step(("skip", "b", many), (0, 1, 0), (), ((5, 7), ((2, (0, 1, 0), ()),)), waits, many_behind=3)

    def test_skip_over_rows_to_the_end(self):
        program = read("cells x 0\nthread\nskip a 3\nput x 1\nfence\nswap a x 2")
        self.assertEqual(walked(program, [0]), ((0,), ((4, (0,), ()),)))
        self.assertIs(is_over(program, walked(program, [0])), True)

    def test_skip_with_a_put_that_waits(self):
        self.need_step(("skip", "a", 1), (0, 2, 3), ((0, 1),), ((5, 7), ((3, (0, 2, 3), ((0, 1),)),)), many_behind=2)

    def test_fence(self):
        for waits in (True, False):
            self.need_step(FENCE, (1, 2, 3), (), ((5, 7), ((2, (1, 2, 3), ()),)), waits)

    def test_outs_come_in_order(self):
        program = read("cells x 0 y 0\nthread\nput x 1\nput y 2\nput x 3")
        states = [walked(program, [0, 0, 0] + [1] * many) for many in range(4)]
        self.assertEqual([state[0] for state in states], [(0, 0), (1, 0), (1, 2), (3, 2)])
        self.assertEqual([state[1][0][2] for state in states], [((0, 1), (1, 2), (0, 3)), ((1, 2), (0, 3)), ((0, 3),), ()])

    def test_the_value_of_a_put_is_that_ahead_of_what_comes_later(self):
        program = read("cells x 0\nthread\nadd a 1 0\nput x a\nadd a 2 0")
        self.assertEqual(walked(program, [0, 0, 0, 1]), ((1,), ((3, (2,), ()),)))

    def test_boxes_in_the_order_in_which_they_first_stand(self):
        program = read("cells x 9\nthread\nput x d\nswap c x a\nadd b a 4\nget a x")
        self.assertEqual(walked(program, [0, 1, 0, 0, 0]), ((0,), ((4, (0, 0, 0, 4), ()),)))
        program = read("cells x 9\nthread\nskip d 0\nadd c 3 b\nget b x")
        self.assertEqual(walked(program, [0, 0, 0]), ((9,), ((3, (0, 3, 9), ()),)))

    def test_a_thread_touches_no_others_boxes_nor_rows(self):
        program = read("cells x 3\nthread\nget a x\nthread\nget b x\nget a x\nthread\nput x 1")
        self.assertEqual(walked(program, [2, 2]), ((3,), ((0, (0,), ()), (2, (3, 3), ()), (0, (), ()))))
        self.assertEqual(walked(program, [4, 5, 0]), ((1,), ((1, (1,), ()), (0, (0, 0), ()), (1, (), ()))))


class Ways(Refusing):
    def test_the_empty_way(self):
        for waits in (True, False):
            self.assertEqual(walked(TWO, [], waits), begun(TWO))

    def test_whole_ways(self):
        for way, outcome in (([0, 2, 0, 2, 1, 3], ((1, 1), ((0,), (0,)))), ([0, 1, 0, 2, 2, 3], ((1, 1), ((0,), (1,)))),
                             ([2, 3, 2, 0, 0, 1], ((1, 1), ((1,), (0,)))), ([0, 1, 2, 3, 0, 2], ((1, 1), ((1,), (1,))))):
            state = walked(TWO, way)
            self.assertIs(is_over(TWO, state), True)
            self.assertEqual(outcome_of(state), outcome)

    def test_whole_ways_without_waiting(self):
        for way, outcome in (([0, 0, 2, 2], ((1, 1), ((0,), (1,)))), ([2, 2, 0, 0], ((1, 1), ((1,), (0,)))),
                             ([0, 2, 2, 0], ((1, 1), ((1,), (1,))))):
            state = walked(TWO, way, False)
            self.assertIs(is_over(TWO, state), True)
            self.assertEqual(outcome_of(state), outcome)

    def test_a_way_is_not_changed_nor_kept(self):
        way = [0, 2]
        state = walked(TWO, way)
        self.assertEqual(way, [0, 2])
        way.append(0)
        self.assertEqual(state, walked(TWO, [0, 2]))

    def test_bad_choices_in_a_way(self):
        for choice in NO_CHOICES + (1, 3, 4, 5, 6, 7):
            for rest in ([], [0], ["a"]):
                self.need_bad(choice, walked, TWO, [choice] + rest)
        for choice in NO_CHOICES + (4, 5):
            self.need_bad(choice, walked, TWO, [0, 2, choice, None])
        self.need_bad(0, walked, TWO, [0, 0, 0])
        self.need_bad(1, walked, TWO, [0, 1, 1])
        self.need_bad(0, walked, TWO, [0, 0, 1, 2, 2, 3, 0])

    def test_bad_choices_in_a_way_without_waiting(self):
        for choice in NO_CHOICES + (1, 3, 4):
            self.need_bad(choice, walked, TWO, [0, choice], False)


class BadChoices(Refusing):
    def test_what_is_none_of_them(self):
        state = begun(TWO)
        for choice in NO_CHOICES + (1, 3, 4, 5):
            self.need_bad(choice, after, TWO, state, choice)
            self.need_bad(choice, after, TWO, state, choice, False)
        state = walked(TWO, [0, 2])
        for choice in NO_CHOICES + (4, 5, 6):
            self.need_bad(choice, after, TWO, state, choice)

    def test_truths_where_their_numbers_can_be_done(self):
        state = walked(TWO, [0])
        self.assertEqual(can(TWO, state)[:2], [0, 1])
        self.need_bad(True, after, TWO, state, True)
        self.need_bad(False, after, TWO, state, False)
        self.need_bad(True, walked, TWO, [0, True])
        self.need_bad(False, walked, TWO, [False])

    def test_the_very_thing_is_told(self):
        for choice in ([0], (0,), {0: 0}, "no", 10 ** 30, object()):
            with self.assertRaises(BadChoice) as caught:
                after(TWO, begun(TWO), choice)
            self.assertIs(caught.exception.choice, choice)

    def test_where_a_fence_or_a_swap_waits(self):
        for row in ("fence", "swap a x 1"):
            program = read(f"cells x 0\nthread\nput x 1\n{row}")
            self.need_bad(0, after, program, walked(program, [0]), 0)
            self.need_bad(0, walked, program, [0, 0])

    def test_where_a_state_is_over(self):
        for waits, way in ((True, [0, 0, 1, 2, 2, 3]), (False, [0, 0, 2, 2])):
            state = walked(TWO, way, waits)
            for choice in range(-2, 8):
                self.need_bad(choice, after, TWO, state, choice, waits)

    def test_what_is_refused_changes_nothing(self):
        state = walked(TWO, [0])
        before = repr(state)
        self.need_bad(9, after, TWO, state, 9)
        self.assertEqual(repr(state), before)
        self.assertEqual(after(TWO, state, 1), walked(TWO, [0, 1]))


class OtherMachine:
    """The machine written otherwise, over dicts and lists that change."""

    def __init__(self, told, waits):
        self.cells = dict(told[0])
        self.names = [name for name, number in told[0]]
        self.rows = told[1]
        self.waits = waits
        self.threads = [{"at": 0, "waiting": [], "boxes": self.boxes_of(rows)} for rows in told[1]]

    def boxes_of(self, rows):
        parts = [part for row in rows for part in row[1:]]
        return {part: 0 for part in parts if isinstance(part, str) and part not in self.names}

    def state(self):
        return (tuple(self.cells[name] for name in self.names), tuple(
            (thread["at"], tuple(thread["boxes"].values()),
             tuple((self.names.index(name), number) for name, number in thread["waiting"])) for thread in self.threads))

    def choices(self):
        return [choice for choice in range(2 * len(self.threads)) if self.may(*divmod(choice, 2))]

    def may(self, number, out):
        thread = self.threads[number]
        if out:
            return len(thread["waiting"]) > 0
        left = self.rows[number][thread["at"]:]
        return len(left) > 0 and not (thread["waiting"] and left[0][0] in {"swap", "fence"})

    def do(self, choice):
        number, out = divmod(choice, 2)
        thread = self.threads[number]
        if out:
            name, put = thread["waiting"].pop(0)
            self.cells[name] = put
        else:
            word, *parts = self.rows[number][thread["at"]]
            thread["at"] += 1
            getattr(self, "do_" + word)(thread, thread["boxes"], *parts)

    def do_put(self, thread, boxes, cell, value):
        thread["waiting"].append((cell, boxes.get(value, value)))
        if not self.waits:
            self.cells.update(thread["waiting"])
            thread["waiting"].clear()

    def do_get(self, thread, boxes, box, cell):
        boxes[box] = {**self.cells, **dict(thread["waiting"])}[cell]

    def do_swap(self, thread, boxes, box, cell, value):
        self.cells[cell], boxes[box] = boxes.get(value, value), self.cells[cell]

    def do_add(self, thread, boxes, box, left, right):
        boxes[box] = (boxes.get(left, left) + boxes.get(right, right)) % 100

    def do_skip(self, thread, boxes, box, many):
        thread["at"] += 0 if boxes[box] else many

    def do_fence(self, thread, boxes):
        pass


class AgainstAnotherMachine(unittest.TestCase):
    def need_run(self, told, waits, pick):
        program = program_of(told)
        other = OtherMachine(told, waits)
        state = begun(program)
        way = []
        while True:
            self.assertEqual(state, other.state())
            choices = can(program, state, waits)
            self.assertEqual(choices, other.choices())
            self.assertIs(is_over(program, state), choices == [])
            if not choices:
                break
            choice = choices[pick * (len(way) + 3) // 2 % len(choices)]
            before = state
            kept = repr(before)
            state = after(program, state, choice, waits)
            self.assertEqual(repr(before), kept)
            other.do(choice)
            way.append(choice)
        self.assertEqual(walked(program, way, waits), state)
        self.assertEqual(outcome_of(state), (state[0], tuple(thread[1] for thread in state[1])))
        self.assertEqual(program.plain(), told)

    def test_drawn_programs(self):
        for told in drawn_programs(21, 400):
            for waits in (True, False):
                for pick in (0, 1, 3, 5, -1):
                    self.need_run(told, waits, pick)


if __name__ == "__main__":
    unittest.main()
