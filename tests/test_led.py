"""Led runs: choices done, taken back and done again; what is refused; the book."""

import random
import unittest

from fencerow.building import program_of
from fencerow.errors import BadChoice, FenceError, NothingDone
from fencerow.led import Led
from fencerow.reading import read
from fencerow.states import begun
from fencerow.steps import can, walked
from programs import crossed_programs, drawn_programs, programs
from second import Node

TWO = read("cells x 0 y 0\nthread\nput x 1\nget a y\nthread\nput y 1\nget b x")
NO_CHOICES = (-1, -2, 4, 5, 6, 10 ** 9, -10 ** 9, 10 ** 6000, True, False, None, "", "0", [], [0], (), (0,), {}, {0: 1}, object())


def all_of(led):
    """All that a led run tells of itself."""
    return (led.state(), led.can(), led.way(), led.many_back(), led.book())


class Looking(unittest.TestCase):
    def need_way(self, led, program, way, many_back, waits=True):
        """The led run stands where a way comes to."""
        self.assertEqual(led.way(), way)
        self.assertEqual(led.state(), walked(program, way, waits))
        self.assertEqual(led.can(), can(program, walked(program, way, waits), waits))
        self.assertEqual(led.many_back(), many_back)
        self.assertEqual(len(led.book()), len(way))
        self.assertEqual([int(line.split()[0]) for line in led.book()], [choice // 2 for choice in way])

    def need_nothing_done(self, ask):
        with self.assertRaises(NothingDone) as caught:
            ask()
        self.assertIs(type(caught.exception), NothingDone)
        self.assertIsInstance(caught.exception, FenceError)

    def need_bad(self, led, choice):
        with self.assertRaises(BadChoice) as caught:
            led.go(choice)
        self.assertIs(type(caught.exception), BadChoice)
        self.assertIs(caught.exception.choice, choice)


class GoingAndBack(Looking):
    def test_at_the_beginning(self):
        led = Led(TWO)
        self.assertEqual(all_of(led), (begun(TWO), [0, 2], [], 0, []))

    def test_choice_by_choice(self):
        led = Led(TWO)
        way = [0, 2, 0, 2, 1, 3]
        for many, choice in enumerate(way, start=1):
            self.assertIsNone(led.go(choice))
            self.need_way(led, TWO, way[:many], 0)
        self.assertEqual(led.can(), [])
        self.assertEqual(led.book(), ["0 put x 1", "1 put y 1", "0 get a y", "1 get b x", "0 out x 1", "1 out y 1"])

    def test_back_and_again(self):
        led = Led(TWO)
        way = [0, 2, 0, 2, 1, 3]
        for choice in way:
            led.go(choice)
        for many in range(1, 7):
            self.assertIsNone(led.back())
            self.need_way(led, TWO, way[:6 - many], many)
        for many in range(1, 7):
            self.assertIsNone(led.again())
            self.need_way(led, TWO, way[:many], 6 - many)

    def test_back_again_and_on(self):
        led = Led(TWO)
        for choice in (0, 1, 0):
            led.go(choice)
        led.back()
        led.back()
        led.again()
        self.need_way(led, TWO, [0, 1], 1)
        led.again()
        led.go(2)
        self.need_way(led, TWO, [0, 1, 0, 2], 0)
        led.back()
        self.need_way(led, TWO, [0, 1, 0], 1)

    def test_the_last_one_taken_back_is_done_again_first(self):
        led = Led(read("cells x 0\nthread\nput x 1\nthread\nput x 2\nthread\nput x 3"))
        for choice in (4, 0, 2):
            led.go(choice)
        for many in range(3):
            led.back()
        led.again()
        self.assertEqual(led.way(), [4])
        led.again()
        self.assertEqual(led.way(), [4, 0])
        self.assertEqual(led.many_back(), 1)

    def test_a_choice_done_anew_ends_what_could_be_done_again(self):
        for anew in (0, 2, 1):
            led = Led(TWO)
            for choice in (0, 0, 1):
                led.go(choice)
            led.back()
            led.back()
            self.assertEqual(led.many_back(), 2)
            led.go(anew)
            self.need_way(led, TWO, [0, anew], 0)
            self.need_nothing_done(led.again)
            self.need_way(led, TWO, [0, anew], 0)
            led.back()
            self.assertEqual(led.many_back(), 1)
            led.again()
            self.need_way(led, TWO, [0, anew], 0)

    def test_the_same_one_done_anew_does_too(self):
        led = Led(TWO)
        led.go(0)
        led.back()
        led.go(0)
        self.need_way(led, TWO, [0], 0)
        self.need_nothing_done(led.again)

    def test_with_waiting_told_or_left_out_and_without(self):
        for led in (Led(TWO), Led(TWO, True), Led(TWO, waits=True)):
            led.go(0)
            self.assertEqual(led.state(), ((0, 0), ((1, (0,), ((0, 1),)), (0, (0,), ()))))
            self.assertEqual(led.can(), [0, 1, 2])
            led.go(1)
            self.assertEqual(led.book(), ["0 put x 1", "0 out x 1"])
        for led in (Led(TWO, False), Led(TWO, waits=False)):
            led.go(0)
            self.assertEqual(led.state(), ((1, 0), ((1, (0,), ()), (0, (0,), ()))))
            self.assertEqual(led.can(), [0, 2])
            self.need_bad(led, 1)
            for choice in (2, 2, 0):
                led.go(choice)
            self.need_way(led, TWO, [0, 2, 2, 0], 0, False)
            self.assertEqual(led.book(), ["0 put x 1", "1 put y 1", "1 get b x", "0 get a y"])
            led.back()
            led.back()
            self.need_way(led, TWO, [0, 2], 2, False)
            led.again()
            self.need_way(led, TWO, [0, 2, 2], 1, False)

    def test_without_rows(self):
        for waits in (True, False):
            program = read("cells x 3\nthread\nthread")
            led = Led(program, waits)
            self.assertEqual(all_of(led), (((3,), ((0, (), ()), (0, (), ()))), [], [], 0, []))
            for choice in (0, 1, 2, 3):
                self.need_bad(led, choice)

    def test_two_beside_each_other(self):
        first, second, plain = Led(TWO), Led(TWO), Led(TWO, False)
        first.go(0)
        second.go(2)
        second.go(3)
        plain.go(0)
        self.need_way(first, TWO, [0], 0)
        self.need_way(second, TWO, [2, 3], 0)
        self.need_way(plain, TWO, [0], 0, False)
        second.back()
        self.need_nothing_done(first.again)
        first.back()
        self.need_way(first, TWO, [], 1)
        self.need_way(second, TWO, [2], 1)
        second.again()
        self.need_way(first, TWO, [], 1)
        self.need_way(second, TWO, [2, 3], 0)
        self.need_way(plain, TWO, [0], 0, False)


class Refusing(Looking):
    def test_back_at_the_beginning(self):
        for waits in (True, False):
            led = Led(TWO, waits)
            told = all_of(led)
            self.need_nothing_done(led.back)
            self.assertEqual(all_of(led), told)
            led.go(2)
            led.back()
            self.need_nothing_done(led.back)
            self.need_way(led, TWO, [], 1, waits)
            led.again()
            self.need_way(led, TWO, [2], 0, waits)

    def test_again_where_nothing_was_taken_back(self):
        for waits in (True, False):
            led = Led(TWO, waits)
            self.need_nothing_done(led.again)
            self.need_way(led, TWO, [], 0, waits)
            led.go(0)
            self.need_nothing_done(led.again)
            self.need_way(led, TWO, [0], 0, waits)
            led.back()
            led.again()
            self.need_nothing_done(led.again)
            self.need_way(led, TWO, [0], 0, waits)

    def test_go_of_what_can_not_be_done(self):
        for waits in (True, False):
            led = Led(TWO, waits)
            for choice in (1, 3) + NO_CHOICES:
                told = all_of(led)
                self.need_bad(led, choice)
                self.assertEqual(all_of(led), told)

    def test_truths_where_their_numbers_could_be_done(self):
        led = Led(TWO)
        led.go(0)
        self.assertEqual(led.can(), [0, 1, 2])
        for choice in (True, False):
            self.need_bad(led, choice)
            self.need_way(led, TWO, [0], 0)

    def test_a_fence_while_something_waits(self):
        led = Led(read("cells x 0\nthread\nput x 1\nfence"))
        led.go(0)
        self.need_bad(led, 0)
        led.go(1)
        led.go(0)
        self.need_bad(led, 0)
        self.assertEqual(led.book(), ["0 put x 1", "0 out x 1", "0 fence"])

    def test_behind_the_end(self):
        led = Led(TWO)
        for choice in (0, 0, 1, 2, 2, 3):
            led.go(choice)
        for choice in (0, 1, 2, 3) + NO_CHOICES:
            self.need_bad(led, choice)
        self.need_way(led, TWO, [0, 0, 1, 2, 2, 3], 0)

    def test_what_was_taken_back_stays_behind_a_refusal(self):
        for waits in (True, False):
            led = Led(TWO, waits)
            for choice in (0, 2, 0):
                led.go(choice)
            led.back()
            led.back()
            told = all_of(led)
            for choice in (5, 3) + NO_CHOICES:
                self.need_bad(led, choice)
                self.assertEqual(all_of(led), told)
            led.again()
            self.need_way(led, TWO, [0, 2], 1, waits)
            self.need_bad(led, None)
            led.again()
            self.need_way(led, TWO, [0, 2, 0], 0, waits)

    def test_what_was_taken_back_stays_behind_back_refused(self):
        led = Led(TWO)
        led.go(0)
        led.go(1)
        led.back()
        led.back()
        self.need_nothing_done(led.back)
        self.need_way(led, TWO, [], 2)
        led.again()
        led.again()
        self.need_way(led, TWO, [0, 1], 0)


class Own(Looking):
    def test_what_was_told_is_the_askers_own(self):
        led = Led(TWO)
        for choice in (0, 2, 0):
            led.go(choice)
        led.back()
        told = all_of(led)
        for tell in (led.way, led.can, led.book):
            found = tell()
            self.assertIs(type(found), list)
            found.append(7)
            found[0] = 9
            other = tell()
            other.clear()
            self.assertEqual(all_of(led), told)
        led.again()
        self.need_way(led, TWO, [0, 2, 0], 0)

    def test_what_was_told_stays_when_the_run_goes_on(self):
        led = Led(TWO)
        led.go(0)
        told = all_of(led)
        kept = (told[0], [0, 1, 2], [0], 0, ["0 put x 1"])
        self.assertEqual(told, kept)
        led.go(1)
        led.back()
        led.back()
        self.assertEqual(told, kept)

    def test_the_program_stays(self):
        told = TWO.plain()
        led = Led(TWO)
        led.go(0)
        led.go(1)
        led.back()
        self.assertEqual(TWO.plain(), told)

    def test_a_plain_program_changed_behind_changes_nothing(self):
        rows = [["put", "x", 1], ["get", "a", "x"]]
        led = Led(program_of([[["x", 0]], [rows]]))
        rows[0][2] = 5
        rows.pop()
        for choice in (0, 0, 1):
            led.go(choice)
        self.assertEqual(led.book(), ["0 put x 1", "0 get a x", "0 out x 1"])
        self.assertEqual(led.state(), ((1,), ((2, (1,), ()),)))


class Book(Looking):
    def test_a_line_for_each_form_of_row(self):
        program = read("cells x 0 long 5\nthread\nput long 12\nget a x\nadd b a 99\nskip b 0\nfence\nthread\nswap c long c\nput x c\n"
                       "add c c c\nskip d 1\nfence")
        led = Led(program)
        for choice in (2, 2, 0, 0, 3, 0, 0, 1, 0, 2, 2):
            led.go(choice)
        self.assertEqual(led.book(), ["1 swap c long c", "1 put x c", "0 put long 12", "0 get a x", "1 out x 5", "0 add b a 99",
                                      "0 skip b 0", "0 out long 12", "0 fence", "1 add c c c", "1 skip d 1"])
        self.assertEqual(led.can(), [])

    def test_what_comes_out_has_the_number_and_not_the_box(self):
        led = Led(read("cells x 7 yy 0\nthread\nthread\nthread\nget a x\nput yy a\nadd a a 1"))
        for choice in (4, 4, 4, 5):
            led.go(choice)
        self.assertEqual(led.book(), ["2 get a x", "2 put yy a", "2 add a a 1", "2 out yy 7"])

    def test_the_eldest_comes_out_first(self):
        led = Led(read("cells x 0 y 0 z 0\nthread\nput z 3\nput x 1\nput z 2"))
        for choice in (0, 0, 0, 1, 1, 1):
            led.go(choice)
        self.assertEqual(led.book()[3:], ["0 out z 3", "0 out x 1", "0 out z 2"])

    def test_it_goes_back_and_on_with_the_run(self):
        led = Led(TWO)
        led.go(0)
        led.go(1)
        led.back()
        self.assertEqual(led.book(), ["0 put x 1"])
        led.again()
        self.assertEqual(led.book(), ["0 put x 1", "0 out x 1"])
        led.back()
        led.go(2)
        self.assertEqual(led.book(), ["0 put x 1", "1 put y 1"])


class AgainstAListOfChoices(Looking):
    """A led run drawn by lot, against the whole list of its choices and a place in it."""

    def line_of(self, node, choice):
        thread, out = divmod(choice, 2)
        if out:
            cell, number, place = node.waiting[thread][0]
            return f"{thread} out {node.told[0][cell][0]} {number}"
        row = node.told[1][thread][node.at[thread]]
        return f"{thread} {' '.join(map(str, row))}"

    def book_of(self, told, way, waits):
        node = Node(told)
        lines = []
        for choice in way:
            lines.append(self.line_of(node, choice))
            node.goes(choice, waits)
        return lines

    def need_same(self, told, waits, lot):
        program = program_of(told)
        led = Led(program, waits)
        choices, place = [], 0
        for step in range(25):
            ask = lot.choice(("go", "go", "go", "back", "back", "again", "bad"))
            now = can(program, walked(program, choices[:place], waits), waits)
            if ask == "go" and now:
                choices[place:] = [lot.choice(now)]
                place += 1
                led.go(choices[-1])
            elif ask == "bad" or ask == "go":
                self.need_bad(led, lot.choice([choice for choice in range(-2, 8) if choice not in now]))
            elif ask == "back" and place > 0:
                place -= 1
                led.back()
            elif ask == "again" and place < len(choices):
                place += 1
                led.again()
            else:
                self.need_nothing_done(getattr(led, ask))
            self.need_way(led, program, choices[:place], len(choices) - place, waits)
            self.assertEqual(led.book(), self.book_of(told, choices[:place], waits))
        self.assertEqual(program.plain(), told)

    def test_drawn_programs(self):
        lot = random.Random(70)
        for told in [*drawn_programs(70, 120), *crossed_programs(71, 60), *list(programs())[::7]]:
            for waits in (True, False):
                self.need_same(told, waits, lot)


if __name__ == "__main__":
    unittest.main()
