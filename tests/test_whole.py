"""What is promised over the whole program: all parts tell the same of one text, and nothing that is handed in or told is shared."""

import copy
import random
import unittest

from fencerow.building import program_of
from fencerow.choosers import first_chooser, last_chooser, numbers_chooser, run, turns_chooser
from fencerow.errors import BadChoice, NothingDone, TooMuch
from fencerow.fences import bare, comes_back, fence_places, fenced, is_plain
from fencerow.gathering import many_met, outcomes, way_to
from fencerow.led import Led
from fencerow.orders import said
from fencerow.reading import read
from fencerow.rings import ring_of, way_of
from fencerow.running import looked, outcome_texts, plain_with
from fencerow.seen import need_seen, seen_by
from fencerow.showing import row_text, shown
from fencerow.states import begun, is_over, outcome_of
from fencerow.steps import after, can, walked
from programs import BARE_MORE_THAN_2000, JUST_2000, NONE_CHOSEN_JUST_2000, PLAIN_JUST_2000, crossed_programs, drawn_programs, programs
from second import goes_against_a_skip, may_be_seen

CROSSED = "cells x 0 y 0\nthread\nput x 1\nget a y\nthread\nput y 1\nget b x"


def all_programs():
    yield from programs()
    yield from drawn_programs(80, 60)
    yield from crossed_programs(81, 60)
    yield from JUST_2000 + PLAIN_JUST_2000 + NONE_CHOSEN_JUST_2000 + BARE_MORE_THAN_2000


def gathered():
    """Each program, with waiting and without, with its outcomes, where they are told."""
    for told in all_programs():
        program = looked(shown(program_of(told)))
        for waits in (True, False):
            try:
                yield program, waits, outcomes(program, waits)
            except TooMuch:
                continue


class Outcomes(unittest.TestCase):
    def test_to_each_a_way_comes_and_what_it_has_seen_has_no_ring(self):
        lot = random.Random(82)
        for program, waits, found in gathered():
            for outcome in lot.sample(found, min(len(found), 4)):
                way = way_to(program, outcome, waits)
                state = walked(program, way, waits)
                self.assertIs(is_over(program, state), True)
                self.assertEqual(outcome_of(state), outcome)
                seen = seen_by(program, way, waits)
                self.assertIsNone(need_seen(program, seen))
                self.assertIsNone(ring_of(program, seen, waits))
                other = way_of(program, seen, waits)
                self.assertEqual(outcome_of(walked(program, other, waits)), outcome)
                self.assertEqual(seen_by(program, other, waits), seen)

    def test_led_runs_never_come_to_what_is_not_told(self):
        lot = random.Random(83)
        for program, waits, found in gathered():
            led = Led(program, waits)
            for many in range(3):
                for step in range(lot.randint(0, len(led.way()))):
                    led.back()
                while led.can():
                    led.go(lot.choice(led.can()))
                self.assertIs(is_over(program, led.state()), True)
                self.assertEqual(led.state(), walked(program, led.way(), waits))
                self.assertIn(outcome_of(led.state()), found)
                self.assertIsNone(ring_of(program, seen_by(program, led.way(), waits), waits))

    def test_led_along_the_way_to_an_outcome(self):
        for program, waits, found in gathered():
            led = Led(program, waits)
            way = way_to(program, found[-1], waits)
            for choice in way:
                led.go(choice)
            self.assertEqual(outcome_of(led.state()), found[-1])
            self.assertEqual((led.can(), led.way()), ([], way))

    def test_runs_of_each_chooser_come_to_what_is_told(self):
        lot = random.Random(84)
        turns = turns_chooser()
        for program, waits, found in gathered():
            numbers = [lot.randint(0, 99) for number in range(7)]
            for chooser in (first_chooser(), last_chooser(), numbers_chooser(numbers), turns):
                way = run(program, chooser, waits)
                self.assertIs(is_over(program, walked(program, way, waits)), True)
                self.assertIn(outcome_of(walked(program, way, waits)), found)
                self.assertIsNone(ring_of(program, seen_by(program, way, waits), waits))

    def test_plain_ones_are_among_the_others_and_fences_keep_them(self):
        for told in [*drawn_programs(85, 60), *crossed_programs(86, 60)]:
            program = program_of(told)
            try:
                found, plain = outcomes(program), outcomes(program, False)
                left = fence_places(program)
                self.assertEqual(outcomes(fenced(program, left)), plain)
            except TooMuch:
                continue
            self.assertLessEqual(set(plain), set(found))
            self.assertEqual(is_plain(program), found == plain)
            for place in left:
                back = comes_back(program, left, place)
                self.assertNotIn(back, plain)
                self.assertIsNotNone(way_to(fenced(program, [other for other in left if other != place]), back))
                self.assertIsNone(way_to(bare(program), back, False))


class WhatIsSaidToBeSeen(unittest.TestCase):
    def test_it_has_a_ring_or_goes_against_a_skip_or_a_way_has_seen_it(self):
        counts = [0, 0, 0]
        lot = random.Random(87)
        for told in crossed_programs(87, 80):
            program = program_of(told)
            may = may_be_seen(told, 3000) or []
            for seen in lot.sample(may, min(len(may), 25)):
                for waits in (True, False):
                    way = way_of(program, seen, waits)
                    if ring_of(program, seen, waits) is not None:
                        self.assertIsNone(way)
                        counts[0] += 1
                    elif goes_against_a_skip(told, seen):
                        self.assertIsNone(way)
                        counts[1] += 1
                    else:
                        self.assertEqual(seen_by(program, way, waits), seen)
                        counts[2] += 1
        self.assertGreater(min(counts), 30, counts)


class HandedInAndTold(unittest.TestCase):
    def test_nothing_that_is_handed_in_is_changed(self):
        told = [[["x", 0], ["y", 0]], [[["put", "x", 1], ["get", "a", "y"]], [["put", "y", 1], ["get", "b", "x"]]]]
        way, places, numbers = [0, 0, 2, 2, 1, 3], [(1, 1), (0, 1)], [2, 1]
        seen = ((3, 3), {(0, 1): None, (1, 1): None}, (((0, 0),), ((1, 0),)))
        handed = copy.deepcopy((told, way, places, numbers, seen))
        program = program_of(told)
        self.assertEqual(seen_by(program, way), seen)
        walked(program, way)
        fenced(program, places)
        comes_back(program, places, (0, 1))
        run(program, numbers_chooser(numbers))
        for waits in (True, False):
            said(program, seen, waits)
            ring_of(program, seen, waits)
            way_of(program, seen, waits)
        self.assertEqual((told, way, places, numbers, seen), handed)

    def test_truths_are_no_whole_numbers(self):
        program = read(CROSSED)
        for choice in (True, False):
            led = Led(program)
            led.go(0)
            self.assertRaises(BadChoice, led.go, choice)
            self.assertRaises(BadChoice, after, program, led.state(), choice)
            self.assertRaises(BadChoice, walked, program, [0, choice])
            self.assertRaises(BadChoice, run, program, lambda choices, state: choice)
            self.assertIsNone(way_to(program, ((1, 1), ((False,), (True,)))))

    def test_all_is_the_same_when_asked_once_more(self):
        def all_told():
            program = looked(CROSSED)
            found = outcomes(program)
            ways = [way_to(program, outcome) for outcome in found]
            seen = [seen_by(program, way) for way in ways]
            told = [found, ways, seen, [said(program, one) for one in seen], [way_of(program, one) for one in seen],
                    [ring_of(program, one, False) for one in seen], can(program, begun(program)), many_met(program),
                    fence_places(program), outcome_texts(CROSSED), plain_with(CROSSED), run(program, turns_chooser()),
                    [row_text(row) for row in program.plain()[1][0]]]
            return told

        first = all_told()
        kept = copy.deepcopy(first)
        for part in all_told():
            if isinstance(part, list):
                part.clear()
        self.assertEqual(first, kept)
        self.assertEqual(all_told(), kept)

    def test_a_refusal_leaves_a_led_run_and_its_program_as_they_were(self):
        program = read(CROSSED)
        led = Led(program)
        self.assertRaises(NothingDone, led.back)
        self.assertRaises(NothingDone, led.again)
        self.assertRaises(BadChoice, led.go, 1)
        self.assertEqual((led.state(), led.way(), led.book(), led.many_back()), (begun(program), [], [], 0))
        self.assertEqual(shown(program), CROSSED)


if __name__ == "__main__":
    unittest.main()
