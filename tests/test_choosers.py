"""Choosers by hand and by run; what they are handed; what is refused of what they tell."""

import itertools
import random
import unittest

from fencerow.building import program_of
from fencerow.choosers import first_chooser, last_chooser, numbers_chooser, run, turns_chooser
from fencerow.errors import BadChoice, FenceError
from fencerow.gathering import outcomes
from fencerow.reading import read
from fencerow.states import begun, is_over, outcome_of
from fencerow.steps import after, can, walked
from programs import crossed_programs, drawn_programs

TWO = read("cells x 0 y 0\nthread\nput x 1\nget a y\nthread\nput y 1\nget b x")
THREE = read("cells x 0\nthread\nput x 1\nget a x\nthread\nput x 2\nthread\nput x 3\nput x 4")
NO_ROWS = read("cells x 0\nthread\nthread")
STATE = begun(TWO)
NO_CHOICES = (-1, -2, 1, 3, 4, 10 ** 9, 10 ** 6000, True, False, None, "", "0", [], [0], (), (0,), {}, {0: 1}, object())


def asked(chooser, *lists):
    """What the chooser tells, asked by hand with one list behind the other."""
    return [chooser(list(choices), STATE) for choices in lists]


def ran(program, pick, waits):
    """The way that comes of going by hand, each choice picked of those that can be done."""
    state, way = begun(program), []
    while can(program, state, waits):
        way.append(pick(can(program, state, waits)))
        state = after(program, state, way[-1], waits)
    return way


class FirstAndLast(unittest.TestCase):
    def test_by_hand_of_lists_of_any_order(self):
        for choices in itertools.permutations((0, 1, 3, 4)):
            self.assertEqual(asked(first_chooser(), choices), [0])
            self.assertEqual(asked(last_chooser(), choices), [4])
        self.assertEqual(asked(first_chooser(), [5], [2, 3], [3, 2]), [5, 2, 2])
        self.assertEqual(asked(last_chooser(), [5], [2, 3], [3, 2]), [5, 3, 3])

    def test_by_run(self):
        for handed in ((), (True,)):
            self.assertEqual(run(TWO, first_chooser(), *handed), [0, 0, 1, 2, 2, 3])
            self.assertEqual(run(TWO, last_chooser(), *handed), [2, 3, 2, 0, 1, 0])
        self.assertEqual(run(TWO, first_chooser(), False), [0, 0, 2, 2])
        self.assertEqual(run(TWO, last_chooser(), False), [2, 2, 0, 0])
        self.assertEqual(run(TWO, last_chooser(), waits=True), [2, 3, 2, 0, 1, 0])
        self.assertEqual(run(TWO, last_chooser(), waits=False), [2, 2, 0, 0])
        self.assertEqual(run(program=TWO, chooser=last_chooser()), [2, 3, 2, 0, 1, 0])


class Numbers(unittest.TestCase):
    def test_by_hand(self):
        chooser = numbers_chooser([0, 1, 2])
        self.assertEqual(asked(chooser, *[[1, 2, 4]] * 7), [1, 2, 4, 1, 2, 4, 1])

    def test_by_how_many_choices_there_are(self):
        chooser = numbers_chooser([5, 3])
        self.assertEqual(asked(chooser, [0, 1, 2], [0, 1, 2], [0, 2], [0, 2], [7], [7], [0, 1, 2, 3], [0, 1, 2, 3]), [2, 0, 2, 2, 7, 7, 1, 3])

    def test_by_the_order_in_which_they_are_handed(self):
        self.assertEqual(asked(numbers_chooser([0, 1, 2, 3]), [4, 0, 2], [4, 0, 2], [4, 0, 2], [4, 0, 2]), [4, 0, 2, 4])

    def test_one_number(self):
        for number, told in ((0, 0), (1, 3), (2, 0), (3, 3)):
            self.assertEqual(asked(numbers_chooser([number]), [0, 3], [0, 3], [0, 3]), [told] * 3)

    def test_many_and_great_ones(self):
        numbers = [7 ** count for count in range(90)]
        chooser = numbers_chooser(numbers)
        choices = [0, 1, 2, 3, 4]
        self.assertEqual(asked(chooser, *[choices] * 200), [choices[numbers[count % 90] % 5] for count in range(200)])

    def test_the_list_is_not_changed_nor_kept(self):
        numbers = [1, 0]
        chooser = numbers_chooser(numbers)
        numbers[0] = 0
        numbers.append(2)
        self.assertEqual(asked(chooser, *[[0, 2, 3]] * 4), [2, 0, 2, 0])
        self.assertEqual(numbers, [0, 0, 2])
        other = numbers_chooser(numbers)
        numbers.clear()
        self.assertEqual(asked(other, *[[0, 2, 3]] * 4), [0, 0, 3, 0])

    def test_each_counts_for_itself(self):
        numbers = [0, 1]
        first, second = numbers_chooser(numbers), numbers_chooser(numbers)
        self.assertEqual(asked(first, [0, 1]), [0])
        self.assertEqual(asked(second, [0, 1]), [0])
        self.assertEqual(asked(first, [0, 1], [0, 1]), [1, 0])
        self.assertEqual(asked(second, [0, 1]), [1])

    def test_it_counts_on_over_a_second_run(self):
        chooser = numbers_chooser([0, 0, 0, 0, 0, 0, 1])
        self.assertEqual(run(TWO, chooser), [0, 0, 1, 2, 2, 3])
        self.assertEqual(run(TWO, chooser), [2, 0, 0, 1, 2, 3])

    def test_by_run(self):
        self.assertEqual(run(TWO, numbers_chooser([0])), run(TWO, first_chooser()))
        self.assertEqual(run(TWO, numbers_chooser([1])), [2, 2, 3, 0, 1, 0])
        self.assertEqual(run(TWO, numbers_chooser([1]), False), [2, 2, 0, 0])
        self.assertEqual(run(TWO, numbers_chooser([1]), waits=True), [2, 2, 3, 0, 1, 0])


class Turns(unittest.TestCase):
    def test_round_about_by_hand(self):
        chooser = turns_chooser()
        self.assertEqual(asked(chooser, *[[0, 2, 4]] * 7), [0, 2, 4, 0, 2, 4, 0])

    def test_a_row_ahead_of_an_out(self):
        chooser = turns_chooser()
        self.assertEqual(asked(chooser, *[[0, 1, 2, 3]] * 3, [1, 3], [0, 1, 3], [1, 3], [0, 1, 2, 3]), [0, 2, 0, 3, 0, 3, 0])

    def test_of_lists_of_any_order(self):
        for choices in itertools.permutations((0, 1, 2, 3, 5)):
            self.assertEqual(asked(turns_chooser(), *[choices] * 4), [0, 2, 5, 0])

    def test_threads_that_can_do_nothing_are_gone_over(self):
        self.assertEqual(asked(turns_chooser(), [2, 4]), [2])
        self.assertEqual(asked(turns_chooser(), [5]), [5])
        self.assertEqual(asked(turns_chooser(), [0, 4], [0, 4], [0, 4], [2, 4], [0, 2]), [0, 4, 0, 2, 0])

    def test_the_same_thread_goes_last(self):
        self.assertEqual(asked(turns_chooser(), [2, 3], [2, 3], [0, 2], [0, 1], [0, 1, 2]), [2, 2, 0, 0, 2])

    def test_each_counts_for_itself(self):
        first, second = turns_chooser(), turns_chooser()
        self.assertEqual(asked(first, [0, 2], [0, 2]), [0, 2])
        self.assertEqual(asked(second, [0, 2]), [0])
        self.assertEqual(asked(first, [0, 2]), [0])
        self.assertEqual(asked(second, [0, 2]), [2])

    def test_by_run(self):
        for handed in ((), (True,)):
            self.assertEqual(run(TWO, turns_chooser(), *handed), [0, 2, 0, 2, 1, 3])
            self.assertEqual(run(THREE, turns_chooser(), *handed), [0, 2, 4, 0, 3, 4, 1, 5, 5])
        self.assertEqual(run(TWO, turns_chooser(), False), [0, 2, 0, 2])
        self.assertEqual(run(THREE, turns_chooser(), waits=False), [0, 2, 4, 0, 4])

    def test_over_a_second_run_of_fewer_or_more_threads(self):
        one = read("cells x 0\nthread\nget a x\nget a x")
        chooser = turns_chooser()
        self.assertEqual(run(THREE, chooser, False), [0, 2, 4, 0, 4])
        self.assertEqual(run(TWO, chooser, False), [0, 2, 0, 2])
        self.assertEqual(run(THREE, chooser, False), [4, 0, 2, 4, 0])
        self.assertEqual(run(TWO, chooser, False), [2, 0, 2, 0])
        self.assertEqual(run(one, chooser), [0, 0])
        self.assertEqual(run(TWO, chooser), [2, 0, 2, 0, 3, 1])
        self.assertEqual(run(NO_ROWS, chooser), [])
        self.assertEqual(run(TWO, chooser), [2, 0, 2, 0, 3, 1])


class Running(unittest.TestCase):
    def test_without_rows_no_chooser_is_asked(self):
        def chooser(choices, state):
            self.fail("asked, where nothing can be done")

        for waits in (True, False):
            self.assertEqual(run(NO_ROWS, chooser, waits), [])

    def test_the_choices_and_the_state_are_handed(self):
        for waits in (True, False):
            handed = []

            def chooser(choices, state):
                handed.append((choices, state))
                return choices[len(handed) % len(choices)]

            way = run(THREE, chooser, waits)
            self.assertIs(type(way), list)
            self.assertEqual(len(handed), len(way))
            for many, (choices, state) in enumerate(handed):
                self.assertIs(type(choices), list)
                self.assertEqual(state, walked(THREE, way[:many], waits))
                self.assertEqual(choices, can(THREE, state, waits))
            self.assertIs(is_over(THREE, walked(THREE, way, waits)), True)

    def test_the_list_that_a_chooser_is_handed_is_its_own(self):
        def clears(choices, state):
            told = choices[-1]
            choices.clear()
            return told

        def keeps(choices, state):
            kept.append(choices)
            choices.reverse()
            choices.append(9)
            return choices[0]

        kept = []
        for chooser in (clears, keeps):
            self.assertEqual(run(TWO, chooser), run(TWO, last_chooser()))
        self.assertEqual(kept[0], [2, 0, 9])
        self.assertEqual(len({id(choices) for choices in kept}), len(kept))

    def test_what_a_chooser_puts_into_its_list_can_not_be_done(self):
        for waits in (True, False):
            for choice in (1, 7, True, None):
                def chooser(choices, state):
                    choices.append(choice)
                    choices.remove(0)
                    return choice

                self.need_bad(choice, TWO, chooser, waits)

    def test_what_a_chooser_takes_out_of_its_list_can_be_done(self):
        def chooser(choices, state):
            return choices.pop(0)

        self.assertEqual(run(TWO, chooser), run(TWO, first_chooser()))

    def need_bad(self, choice, program, chooser, *waits):
        with self.assertRaises(BadChoice) as caught:
            run(program, chooser, *waits)
        self.assertIs(type(caught.exception), BadChoice)
        self.assertIsInstance(caught.exception, FenceError)
        self.assertIs(caught.exception.choice, choice)

    def test_what_is_none_of_the_choices(self):
        for choice in NO_CHOICES:
            for waits in ((), (True,), (False,)):
                self.need_bad(choice, TWO, lambda choices, state: choice, *waits)

    def test_later_on_too(self):
        for choice in (None, True, 0, 2, 4, "1"):
            told = iter([0, 0, 1, 2, 2, choice])
            self.need_bad(choice, TWO, lambda choices, state: next(told))

    def test_truths_where_their_numbers_could_be_done(self):
        for choice in (True, False):
            told = iter([0, choice])
            self.need_bad(choice, TWO, lambda choices, state: next(told))

    def test_an_out_without_waiting(self):
        told = iter([0, 1])
        self.need_bad(1, TWO, lambda choices, state: next(told), False)

    def test_the_way_is_the_askers_own(self):
        way = run(TWO, first_chooser())
        way.clear()
        self.assertEqual(run(TWO, first_chooser()), [0, 0, 1, 2, 2, 3])

    def test_the_choosers_do_not_change_what_they_are_handed(self):
        for chooser in (first_chooser(), last_chooser(), numbers_chooser([1, 2]), turns_chooser()):
            choices = [4, 0, 3]
            for many in range(3):
                self.assertIn(chooser(choices, STATE), choices)
                self.assertEqual(choices, [4, 0, 3])


class AgainstGoingByHand(unittest.TestCase):
    def need_run(self, program, chooser, pick, waits):
        way = run(program, chooser, waits)
        self.assertEqual(way, ran(program, pick, waits))
        return outcome_of(walked(program, way, waits))

    def turning(self):
        """Goes round about by a list of threads that is turned on."""
        threads = [0, 1, 2]

        def pick(choices):
            for thread in list(threads):
                for choice in (2 * thread, 2 * thread + 1):
                    if choice in choices:
                        threads[:] = [(thread + many) % 3 for many in (1, 2, 3)]
                        return choice

        return pick

    def counting(self, numbers):
        going = itertools.cycle(numbers)
        return lambda choices: choices[next(going) % len(choices)]

    def test_drawn_programs(self):
        lot = random.Random(72)
        for told in [*drawn_programs(72, 60), *crossed_programs(73, 40)]:
            program = program_of(told)
            numbers = [lot.randint(0, 50) for number in range(lot.randint(1, 9))]
            for waits in (True, False):
                self.need_run(program, first_chooser(), min, waits)
                self.need_run(program, last_chooser(), max, waits)
                self.need_run(program, turns_chooser(), self.turning(), waits)
                self.need_run(program, numbers_chooser(numbers), self.counting(numbers), waits)
            self.assertEqual(program.plain(), told)

    def test_turns_over_several_runs(self):
        chooser, pick = turns_chooser(), self.turning()
        for told in drawn_programs(74, 60):
            self.need_run(program_of(told), chooser, pick, True)

    def test_their_outcomes_are_told(self):
        for waits in (True, False):
            for chooser in (first_chooser(), last_chooser(), numbers_chooser([3, 1, 4]), turns_chooser()):
                found = outcome_of(walked(TWO, run(TWO, chooser, waits), waits))
                self.assertIn(found, outcomes(TWO, waits))


if __name__ == "__main__":
    unittest.main()
