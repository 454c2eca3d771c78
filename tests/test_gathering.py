"""Gathering: which states are met, the outcomes, ways there, and where it is too much."""

import unittest

from fencerow.building import program_of
from fencerow.errors import FenceError, TooMuch
from fencerow.gathering import many_met, outcomes, way_to
from fencerow.reading import read
from fencerow.states import begun, is_over, outcome_of
from fencerow.steps import after, can, walked
from programs import FENCE, FULL_OF_THREE, JUST_2000, MORE_THAN_2000, PLAIN_JUST_2000, PLAIN_MORE_THAN_2000, drawn_programs
from second import last_nodes

CROSSED = read("cells x 0 y 0\nthread\nput x 1\nget a y\nthread\nput y 1\nget b x")
FENCED = read("cells x 0 y 0\nthread\nput x 1\nfence\nget a y\nthread\nput y 1\nfence\nget b x")
MESSAGE = read("cells x 0 y 0\nthread\nput x 1\nput y 1\nthread\nget a y\nget b x")
NO_ROWS = ("cells x 7\nthread", "cells x 7\nthread\nthread", "cells x 7\nthread\nthread\nthread")


def gone_through(program, waits):
    """All met states, gone through by hand, each with the length of the shortest way there.

    Ways come to an end, so all states behind so many choices are gone on from, be they met already or not.
    """
    lengths = {}
    states = {begun(program)}
    many = 0
    while states:
        for state in states:
            lengths.setdefault(state, many)
        states = {after(program, state, choice, waits) for state in states for choice in can(program, state, waits)}
        many += 1
    return lengths


def first_outcome(program, waits):
    """That of always the least choice."""
    state = begun(program)
    while can(program, state, waits):
        state = after(program, state, can(program, state, waits)[0], waits)
    return outcome_of(state)


def boxes_in(found):
    """Of outcomes the boxes' numbers alone, those of all threads in a row."""
    return [tuple(number for boxes in outcome[1] for number in boxes) for outcome in found]


class Known(unittest.TestCase):
    def need_boxes(self, program, waiting, plain):
        self.assertEqual(boxes_in(outcomes(program)), waiting)
        self.assertEqual(boxes_in(outcomes(program, True)), waiting)
        self.assertEqual(boxes_in(outcomes(program, waits=True)), waiting)
        self.assertEqual(boxes_in(outcomes(program, False)), plain)
        self.assertEqual(boxes_in(outcomes(program, waits=False)), plain)

    def test_whole_outcomes(self):
        both = (1, 1)
        self.assertEqual(outcomes(CROSSED), [(both, ((0,), (0,))), (both, ((0,), (1,))), (both, ((1,), (0,))), (both, ((1,), (1,)))])
        self.assertEqual(outcomes(CROSSED, False), [(both, ((0,), (1,))), (both, ((1,), (0,))), (both, ((1,), (1,)))])

    def test_each_puts_and_gets_the_others_cell(self):
        plain = [(0, 1), (1, 0), (1, 1)]
        self.need_boxes(CROSSED, [(0, 0)] + plain, plain)
        self.need_boxes(FENCED, plain, plain)
        one_fence = read("cells x 0 y 0\nthread\nput x 1\nfence\nget a y\nthread\nput y 1\nget b x")
        self.need_boxes(one_fence, [(0, 0)] + plain, plain)

    def test_swaps_hold_back_as_fences_do(self):
        swapped = read("cells x 0 y 0\nthread\nswap c x 1\nget a y\nthread\nswap d y 1\nget b x")
        told = [(0, 0, 0, 1), (0, 1, 0, 0), (0, 1, 0, 1)]
        self.need_boxes(swapped, told, told)
        between = read("cells x 0 y 0 z 0\nthread\nput x 1\nswap c z 0\nget a y\nthread\nput y 1\nswap d z 0\nget b x")
        self.need_boxes(between, told, told)

    def test_a_message_and_a_flag(self):
        told = [(0, 0), (0, 1), (1, 1)]
        self.need_boxes(MESSAGE, told, told)

    def test_both_get_ahead_of_their_puts(self):
        loads = read("cells x 0 y 0\nthread\nget a x\nput y 1\nthread\nget b y\nput x 1")
        told = [(0, 0), (0, 1), (1, 0)]
        self.need_boxes(loads, told, told)

    def test_its_own_put_is_seen_ahead_of_all_others(self):
        program = read("cells x 0 y 0\nthread\nput x 1\nget a x\nget b y\nthread\nput y 1\nget c y\nget d x")
        plain = [(1, 0, 1, 1), (1, 1, 1, 0), (1, 1, 1, 1)]
        self.need_boxes(program, [(1, 0, 1, 0)] + plain, plain)

    def test_swaps_on_one_cell(self):
        program = read("cells x 0\nthread\nswap a x 1\nthread\nswap b x 2")
        told = [((1,), ((2,), (0,))), ((2,), ((0,), (1,)))]
        self.assertEqual(outcomes(program), told)
        self.assertEqual(outcomes(program, False), told)

    def test_swaps_of_three_on_one_cell_get_unlike_numbers(self):
        program = read("cells x 0\nthread\nswap a x 1\nthread\nswap b x 2\nthread\nswap c x 3")
        told = [(0, 1, 2), (0, 3, 1), (2, 0, 1), (2, 3, 0), (3, 0, 2), (3, 1, 0)]
        self.assertEqual(sorted(boxes_in(outcomes(program))), told)
        self.assertEqual([outcome[0] for outcome in outcomes(program)], [(1,), (1,), (2,), (2,), (3,), (3,)])

    def test_adds_can_be_lost(self):
        program = read("cells x 99\nthread\nget a x\nadd a a 1\nput x a\nthread\nget b x\nadd b 1 b\nput x b")
        told = [((0,), ((0,), (0,))), ((1,), ((0,), (1,))), ((1,), ((1,), (0,)))]
        self.assertEqual(outcomes(program), told)
        self.assertEqual(outcomes(program, False), told)

    def test_skips(self):
        program = read("cells x 0 y 0\nthread\nput x 1\nthread\nget a x\nskip a 1\nput y 5")
        told = [((1, 0), ((), (0,))), ((1, 5), ((), (1,)))]
        self.assertEqual(outcomes(program), told)
        self.assertEqual(outcomes(program, False), told)

    def test_rising_by_numbers(self):
        program = read("cells x 5\nthread\nput x 10\nthread\nput x 9\nthread\nput x 80")
        self.assertEqual(outcomes(program), [((9,), ((), (), ())), ((10,), ((), (), ())), ((80,), ((), (), ()))])

    def test_one_outcome_of_many_ways_is_told_once(self):
        program = read("cells x 0\nthread\nput x 1\nthread\nput x 1\nthread\nput x 1")
        self.assertEqual(outcomes(program), [((1,), ((), (), ()))])

    def test_a_skip_beyond_its_threads_end(self):
        rows = (("get", "a", "x"), ("skip", "a", 3), ("add", "a", 0, 0))
        program = program_of(((("x", 0),), (rows, (("put", "x", 1),))))
        for waits in (True, False):
            self.assertEqual(outcomes(program, waits), [((1,), ((0,), ()))])

    def test_without_rows(self):
        for many, text in enumerate(NO_ROWS, start=1):
            program = read(text)
            for waits in (True, False):
                self.assertEqual(outcomes(program, waits), [((7,), ((),) * many)])
                self.assertEqual(many_met(program, waits), 1)
                self.assertEqual(way_to(program, ((7,), ((),) * many), waits), [])
                self.assertIsNone(way_to(program, ((8,), ((),) * many), waits))


class Met(unittest.TestCase):
    def test_counted_by_hand(self):
        for rows, waiting, plain in (("", 1, 1), ("\nfence", 2, 2), ("\nput x 1", 3, 2), ("\nput x 0", 3, 2), ("\nput x 1\nput x 2", 6, 3),
                                     ("\nput x 1\nfence", 4, 3), ("\nget a x\nget a x", 3, 3), ("\nskip a 1\nfence", 2, 2),
                                     ("\nswap a x 1\nswap a x 1", 3, 3), ("\nput x 1\nget a x", 5, 3)):
            program = read("cells x 0\nthread" + rows)
            self.assertEqual(many_met(program), waiting, rows)
            self.assertEqual(many_met(program, True), waiting, rows)
            self.assertEqual(many_met(program, waits=True), waiting, rows)
            self.assertEqual(many_met(program, False), plain, rows)
            self.assertEqual(many_met(program, waits=False), plain, rows)

    def test_threads_apart(self):
        program = read("cells x 0 y 0\nthread\nput x 1\nthread\nput y 1\nput y 2")
        self.assertEqual(many_met(program), 18)
        self.assertEqual(many_met(program, False), 6)

    def test_a_state_that_several_ways_come_to_counts_once(self):
        program = read("cells x 0\nthread\nput x 1\nthread\nput x 1")
        self.assertEqual(many_met(program, False), 4)


class Ways(unittest.TestCase):
    def need_way(self, program, outcome, waits=True):
        way = way_to(program, outcome, waits)
        self.assertIs(type(way), list)
        state = walked(program, way, waits)
        self.assertIs(is_over(program, state), True)
        self.assertEqual(outcome_of(state), outcome)
        return way

    def test_to_each_outcome(self):
        for program in (CROSSED, FENCED, MESSAGE):
            for waits in (True, False):
                for outcome in outcomes(program, waits):
                    self.need_way(program, outcome, waits)

    def test_waiting_where_nothing_is_told_of_it(self):
        self.assertEqual(len(way_to(CROSSED, ((1, 1), ((0,), (0,))))), 6)
        self.assertEqual(len(way_to(CROSSED, ((1, 1), ((0,), (1,))), waits=True)), 6)
        self.assertEqual(way_to(CROSSED, ((1, 1), ((0,), (1,))), waits=False), [0, 0, 2, 2])

    def test_none_of_what_is_no_outcome(self):
        for waits in (True, False):
            for outcome in (((0, 1), ((0,), (1,))), ((1, 1), ((0,), (2,))), ((1, 1), ((0,),)), ((1,), ((0,), (1,))), ((1, 1), ((), ())),
                            ((0, 0), ((0,), (0,))), ()):
                self.assertIsNone(way_to(CROSSED, outcome, waits))

    def test_none_of_an_outcome_of_waiting_in_plain_turns(self):
        outcome = ((1, 1), ((0,), (0,)))
        self.assertIsNotNone(way_to(CROSSED, outcome))
        self.assertIsNone(way_to(CROSSED, outcome, False))
        self.assertIsNone(way_to(FENCED, outcome))

    def test_truths_are_no_numbers_of_an_outcome(self):
        self.assertIsNotNone(way_to(CROSSED, ((1, 1), ((0,), (1,)))))
        for outcome in (((True, 1), ((0,), (1,))), ((1, 1), ((False,), (1,))), ((1, 1), ((0,), (True,)))):
            self.assertIsNone(way_to(CROSSED, outcome))

    def test_as_short_as_any(self):
        text = "cells x 1\nthread\nget a x\nskip a 3\nadd a 0 0\nadd b 0 0\nadd b 0 0\nthread\nput x 0"
        program = read(text)
        outcome = ((0,), ((0, 0), ()))
        self.assertEqual(outcomes(program), [outcome])
        self.assertEqual(len(way_to(program, outcome)), 4)
        self.assertEqual(len(way_to(program, outcome, False)), 3)
        other = read("cells x 0\nthread\nget a x\nskip a 3\nadd a 0 0\nadd b 0 0\nadd b 0 0\nthread\nput x 1")
        self.assertEqual(len(way_to(other, ((1,), ((0, 0), ())))), 4)
        self.assertEqual(len(way_to(other, ((1,), ((0, 0), ())), False)), 3)


class TooManyStates(unittest.TestCase):
    def need_too_much(self, program, waits):
        outcome = first_outcome(program, waits)
        for ask in (lambda: outcomes(program, waits), lambda: many_met(program, waits), lambda: way_to(program, outcome, waits),
                    lambda: way_to(program, ((), ()), waits)):
            with self.assertRaises(TooMuch) as caught:
                ask()
            self.assertIs(type(caught.exception), TooMuch)
            self.assertIsInstance(caught.exception, FenceError)

    def need_just_2000(self, program, waits):
        self.assertEqual(many_met(program, waits), 2000)
        found = outcomes(program, waits)
        self.assertEqual(found, sorted({outcome_of(state) for state in gone_through(program, waits) if is_over(program, state)}))
        for outcome in found:
            self.assertEqual(outcome_of(walked(program, way_to(program, outcome, waits), waits)), outcome)

    def test_just_2000(self):
        for told in JUST_2000:
            self.need_just_2000(program_of(told), True)
        for told in PLAIN_JUST_2000:
            self.need_just_2000(program_of(told), False)

    def test_a_few_more(self):
        for told in MORE_THAN_2000:
            self.assertIn(len(gone_through(program_of(told), True)), (2001, 2002))
            self.need_too_much(program_of(told), True)
        for told in PLAIN_MORE_THAN_2000:
            self.assertIn(len(gone_through(program_of(told), False)), (2001, 2002))
            self.need_too_much(program_of(told), False)

    def test_each_by_its_own_states(self):
        for told in JUST_2000 + MORE_THAN_2000:
            program = program_of(told)
            states = gone_through(program, False)
            self.assertLess(len(states), 2000)
            self.assertEqual(many_met(program, False), len(states))
            self.assertEqual(outcomes(program, False), sorted({outcome_of(state) for state in states if is_over(program, state)}))
            self.assertIsNotNone(way_to(program, outcomes(program, False)[0], False))
        for told in PLAIN_JUST_2000:
            self.need_too_much(program_of(told), True)

    def test_waiting_where_nothing_is_told_of_it(self):
        program = program_of(PLAIN_JUST_2000[0])
        for ask in (lambda: outcomes(program), lambda: many_met(program), lambda: way_to(program, ((), ()))):
            self.assertRaises(TooMuch, ask)

    def test_along_one_thread(self):
        for many_rows in (1998, 1999):
            program = program_of(((("x", 3),), ((FENCE,) * many_rows,)))
            self.assertEqual(many_met(program), many_rows + 1)
            self.assertEqual(outcomes(program), [((3,), ((),))])
            self.assertEqual(way_to(program, ((3,), ((),))), [0] * many_rows)
        program = program_of(((("x", 3),), ((FENCE,) * 2000,)))
        for waits in (True, False):
            self.need_too_much(program, waits)

    def test_far_more(self):
        program = program_of(((("x", 3),), ((("put", "x", 1),) * 5, (("put", "x", "a"), ("swap", "a", "x", 2)) * 2, FULL_OF_THREE)))
        self.need_too_much(program, True)

    def test_nothing_is_left_behind_a_refusal(self):
        told = outcomes(CROSSED)
        self.need_too_much(program_of(MORE_THAN_2000[0]), True)
        self.assertEqual(outcomes(CROSSED), told)
        self.need_just_2000(program_of(JUST_2000[0]), True)


class Own(unittest.TestCase):
    def test_what_was_told_is_the_askers_own(self):
        told = outcomes(CROSSED)
        kept = list(told)
        self.assertIs(type(told), list)
        told.clear()
        self.assertEqual(outcomes(CROSSED), kept)
        way = way_to(CROSSED, kept[0])
        kept_way = list(way)
        way.append(7)
        self.assertEqual(way_to(CROSSED, kept[0]), kept_way)

    def test_they_are_made_of_tuples(self):
        for outcome in outcomes(CROSSED):
            for part in (outcome, outcome[0], outcome[1], *outcome[1]):
                self.assertIs(type(part), tuple)


class AgainstGoingThroughByHand(unittest.TestCase):
    def need_same(self, told, waits):
        program = program_of(told)
        lengths = gone_through(program, waits)
        self.assertEqual(many_met(program, waits), len(lengths))
        last = {state: length for state, length in lengths.items() if is_over(program, state)}
        self.assertEqual(outcomes(program, waits), sorted({outcome_of(state) for state in last}))
        for outcome in outcomes(program, waits):
            way = way_to(program, outcome, waits)
            self.assertEqual(len(way), min(length for state, length in last.items() if outcome_of(state) == outcome))
            state = walked(program, way, waits)
            self.assertIn(state, last)
            self.assertEqual(outcome_of(state), outcome)
        self.assertEqual(program.plain(), told)

    def test_drawn_programs(self):
        many = 0
        for told in drawn_programs(8, 120):
            for waits in (True, False):
                try:
                    many_met(program_of(told), waits)
                except TooMuch:
                    self.assertGreater(len(gone_through(program_of(told), waits)), 2000)
                else:
                    self.need_same(told, waits)
                    many += 1
        self.assertGreater(many, 150)

    def test_the_outcomes_of_another_machine(self):
        many = 0
        for told in drawn_programs(9, 100, 1):
            for waits in (True, False):
                nodes = last_nodes(told, waits, 1000)
                if nodes is not None:
                    self.assertEqual(outcomes(program_of(told), waits), sorted({node.outcome() for node in nodes}))
                    many += 1
        self.assertGreater(many, 60)


if __name__ == "__main__":
    unittest.main()
