"""Bare programs, fences put in at places, which are left, and what comes back without them."""

import random
import unittest

from fencerow.building import program_of
from fencerow.errors import FenceError, TooMuch
from fencerow.fences import bare, comes_back, fence_places, fenced, is_plain
from fencerow.gathering import many_met, outcomes
from fencerow.reading import read
from fencerow.rows import Program
from fencerow.showing import shown
from fencing import bare_told, chosen_at_first, fenced_told, outcome_back, places_left
from programs import (ALL_CHOSEN_MORE_THAN_2000, BARE_MORE_THAN_2000, FENCED_MORE_THAN_2000, JUST_2000, MORE_THAN_2000,
                      NONE_CHOSEN_JUST_2000, NONE_CHOSEN_MORE_THAN_2000, PLAIN_JUST_2000, PLAIN_MORE_THAN_2000,
                      crossed_programs, drawn_programs, programs)
from second import outcomes_met

HEAD = "cells x 0 y 0\nthread\n"
CROSSED = read("cells x 0 y 0\nthread\nput x 1\nget a y\nthread\nput y 1\nget b x")
CROSSED_FENCED = read("cells x 0 y 0\nthread\nput x 1\nfence\nget a y\nthread\nput y 1\nfence\nget b x")
BOTH_NONE = ((1, 1), ((0,), (0,)))
BARE_ROWS = (
    ("put x 1", "put x 1"),
    ("fence", ""),
    ("fence\nfence\nfence\nfence\nfence", ""),
    ("fence\nput x 1", "put x 1"),
    ("put x 1\nfence", "put x 1"),
    ("put x 1\nfence\nget a x", "put x 1\nget a x"),
    ("fence\nput x 1\nfence\nfence\nget a x\nfence\nfence", "put x 1\nget a x"),
    ("fence\nput x a\nget a x\nfence\nswap a x 1\nadd b a 99\nfence", "put x a\nget a x\nswap a x 1\nadd b a 99"),
    # Skips over a fence, over several, over them alone, and not over one that stands ahead of the skip.
    ("skip a 2\nfence\nput x 1\nget b x", "skip a 1\nput x 1\nget b x"),
    ("skip a 4\nfence\nput x 1\nfence\nput x 2\nget b x", "skip a 2\nput x 1\nput x 2\nget b x"),
    ("skip a 1\nfence\nput x 1", "skip a 0\nput x 1"),
    ("skip a 2\nfence\nfence\nput x 1", "skip a 0\nput x 1"),
    ("fence\nfence\nskip a 1\nput x 1\nget b x", "skip a 1\nput x 1\nget b x"),
    # Onto a fence, with one more behind it, and onto the second of them.
    ("skip a 1\nput x 1\nfence\nget b x", "skip a 1\nput x 1\nget b x"),
    ("skip a 1\nput x 1\nfence\nfence\nget b x", "skip a 1\nput x 1\nget b x"),
    ("skip a 2\nput x 1\nfence\nfence\nget b x", "skip a 1\nput x 1\nget b x"),
    ("skip a 0\nfence\nput x 1", "skip a 0\nput x 1"),
    ("skip a 1\nfence\nfence\nput x 1", "skip a 0\nput x 1"),
    # Behind a fence.
    ("skip a 2\nput x 1\nfence\nget b x", "skip a 1\nput x 1\nget b x"),
    ("skip a 3\nput x 1\nfence\nfence\nget b x", "skip a 1\nput x 1\nget b x"),
    # To the end, or onto fences behind which nothing else stands.
    ("skip a 2\nput x 1\nfence", "skip a 1\nput x 1"),
    ("skip a 1\nput x 1\nfence", "skip a 1\nput x 1"),
    ("skip a 1\nput x 1\nfence\nfence", "skip a 1\nput x 1"),
    ("skip a 1\nfence", "skip a 0"),
    ("skip a 0\nfence", "skip a 0"),
    ("skip a 0", "skip a 0"),
    ("skip a 9\nput x 1\nfence\nput x 2\nfence\nput x 3\nfence\nput x 4\nfence\nfence",
     "skip a 4\nput x 1\nput x 2\nput x 3\nput x 4"),
    # Skips among what others go over.
    ("skip a 4\nfence\nskip b 2\nfence\nput x 1\nget c x", "skip a 2\nskip b 1\nput x 1\nget c x"),
)
FENCED_ROWS = (
    ("put x 1\nget a x", [], "put x 1\nget a x"),
    ("put x 1\nget a x", [1], "put x 1\nfence\nget a x"),
    ("put x 1\nput x 2\nget a x\nput x 3\nget b x", [1, 2, 3, 4],
     "put x 1\nfence\nput x 2\nfence\nget a x\nfence\nput x 3\nfence\nget b x"),
    ("put x 1\nput x 2\nget a x\nput x 3\nget b x", [4, 2], "put x 1\nput x 2\nfence\nget a x\nput x 3\nfence\nget b x"),
    ("add a 1 1\nswap b x a\nput x b", [2], "add a 1 1\nswap b x a\nfence\nput x b"),
    # Fences that a skip goes over, one just ahead of the row to which it leads, both, and one ahead of itself.
    ("skip a 1\nput x 1\nget b x", [1], "skip a 2\nfence\nput x 1\nget b x"),
    ("skip a 1\nput x 1\nget b x", [2], "skip a 1\nput x 1\nfence\nget b x"),
    ("skip a 1\nput x 1\nget b x", [2, 1], "skip a 2\nfence\nput x 1\nfence\nget b x"),
    ("skip a 2\nput x 1\nput x 2\nget b x\nget c x", [1, 2, 3, 4],
     "skip a 4\nfence\nput x 1\nfence\nput x 2\nfence\nget b x\nfence\nget c x"),
    ("put x 1\nskip a 1\nget b x\nget b y", [1], "put x 1\nfence\nskip a 1\nget b x\nget b y"),
    ("put x 1\nskip a 1\nget b x\nget b y", [1, 2, 3], "put x 1\nfence\nskip a 2\nfence\nget b x\nfence\nget b y"),
    ("skip a 0\nput x 1", [1], "skip a 0\nfence\nput x 1"),
    ("skip a 0\nput x 1\nput x 2", [2], "skip a 0\nput x 1\nfence\nput x 2"),
    # To the end.
    ("skip a 1\nput x 1", [1], "skip a 2\nfence\nput x 1"),
    ("skip a 4\nput x 1\nput x 2\nput x 3\nput x 4", [1, 2, 3, 4],
     "skip a 8\nfence\nput x 1\nfence\nput x 2\nfence\nput x 3\nfence\nput x 4"),
    ("put x 1\nskip a 0", [1], "put x 1\nfence\nskip a 0"),
    # Skips among what others go over.
    ("skip a 2\nskip b 1\nput x 1\nget c x", [1, 2, 3], "skip a 4\nfence\nskip b 2\nfence\nput x 1\nfence\nget c x"),
    # With fences of its own, which do not stay.
    ("fence\nput x 1\nfence\nget a x\nfence", [], "put x 1\nget a x"),
    ("put x 1\nfence\nget a x\nget b x", [2], "put x 1\nget a x\nfence\nget b x"),
    ("put x 1\nfence\nfence\nget a x", [1], "put x 1\nfence\nget a x"),
    ("skip a 2\nput x 1\nfence\nget b x", [2], "skip a 1\nput x 1\nfence\nget b x"),
    ("fence\nskip a 3\nfence\nput x 1\nfence\nget b x", [1], "skip a 2\nfence\nput x 1\nget b x"),
)


def with_head(rows):
    return (HEAD + rows).rstrip("\n")


def some_places(lot, told):
    """Some places of the bare one, in any order."""
    places = [(thread, at) for thread, rows in enumerate(bare_told(told)[1]) for at in range(1, len(rows))]
    return lot.sample(places, lot.randint(0, len(places)))


class Bare(unittest.TestCase):
    def test_where_its_rows_and_skips_are_then(self):
        for rows, without in BARE_ROWS:
            with self.subTest(rows=rows):
                self.assertEqual(shown(bare(read(HEAD + rows))), with_head(without))

    def test_bare_once_more_it_stays_as_it_is(self):
        for rows, without in BARE_ROWS:
            program = read(with_head(without))
            self.assertEqual(bare(program).plain(), program.plain())

    def test_thread_by_thread(self):
        program = read("cells x 3\nthread\nfence\nput x 1\nthread\nthread\nskip a 1\nfence\nfence")
        self.assertEqual(shown(bare(program)), "cells x 3\nthread\nput x 1\nthread\nthread\nskip a 0")

    def test_a_skip_beyond_its_threads_end_leads_to_the_end(self):
        for number in (2, 3, 9):
            program = program_of(((("x", 0),), ((("skip", "a", number), ("put", "x", 1), ("fence",)),)))
            self.assertEqual(bare(program).plain(), ((("x", 0),), ((("skip", "a", 1), ("put", "x", 1)),)))

    def test_it_is_another_program_and_the_first_one_stays(self):
        told = CROSSED_FENCED.plain()
        found = bare(CROSSED_FENCED)
        self.assertIsInstance(found, Program)
        self.assertEqual(found.plain(), CROSSED.plain())
        self.assertEqual(CROSSED_FENCED.plain(), told)

    def test_against_a_second_reckoning(self):
        for told in [*programs(), *drawn_programs(60, 600, 5)]:
            program = program_of(told)
            self.assertEqual(bare(program).plain(), bare_told(told))
            self.assertEqual(program.plain(), told)

    def test_plain_turns_stay_as_they_are(self):
        for told in drawn_programs(61, 150):
            program = program_of(told)
            try:
                self.assertEqual(outcomes(bare(program), False), outcomes(program, False))
            except TooMuch:
                continue


class Fenced(unittest.TestCase):
    def test_where_its_rows_and_skips_are_then(self):
        for rows, ats, with_fences in FENCED_ROWS:
            with self.subTest(rows=rows, ats=ats):
                places = [(0, at) for at in ats]
                self.assertEqual(shown(fenced(read(HEAD + rows), places)), with_head(with_fences))
                self.assertEqual(shown(fenced(read(HEAD + rows), list(reversed(places)))), with_head(with_fences))

    def test_thread_by_thread(self):
        self.assertEqual(shown(fenced(CROSSED, [(1, 1)])), "cells x 0 y 0\nthread\nput x 1\nget a y\nthread\nput y 1\nfence\nget b x")
        self.assertEqual(fenced(CROSSED, [(1, 1), (0, 1)]).plain(), CROSSED_FENCED.plain())
        self.assertEqual(fenced(CROSSED, [(0, 1), (1, 1)]).plain(), CROSSED_FENCED.plain())

    def test_fenced_once_more_and_bare_once_more(self):
        once = fenced(CROSSED, [(0, 1)])
        self.assertEqual(fenced(once, []).plain(), CROSSED.plain())
        self.assertEqual(fenced(once, [(1, 1)]).plain(), fenced(CROSSED, [(1, 1)]).plain())
        self.assertEqual(fenced(once, [(0, 1)]).plain(), once.plain())
        self.assertEqual(bare(once).plain(), CROSSED.plain())

    def test_it_reads_as_it_is_shown(self):
        for rows, ats, with_fences in FENCED_ROWS:
            found = fenced(read(HEAD + rows), [(0, at) for at in ats])
            self.assertEqual(read(shown(found)).plain(), found.plain())

    def test_the_list_of_places_is_not_changed_nor_kept(self):
        places = [(1, 1), (0, 1)]
        found = fenced(CROSSED, places)
        self.assertIsInstance(found, Program)
        self.assertEqual(places, [(1, 1), (0, 1)])
        places.clear()
        self.assertEqual(found.plain(), CROSSED_FENCED.plain())
        places.append((0, 1))
        self.assertEqual(found.plain(), CROSSED_FENCED.plain())
        self.assertEqual(outcomes(found), outcomes(CROSSED, False))

    def test_places_somewhat_beyond_are_not_refused(self):
        self.assertEqual(shown(fenced(read(HEAD + "put x 1\nget a y"), [(0, 0)])), HEAD + "fence\nput x 1\nget a y")
        for place in ((0, 2), (0, 3), (1, 1), (2, 0)):
            found = fenced(read(HEAD + "put x 1\nget a y"), [place])
            self.assertEqual(bare(found).plain(), read(HEAD + "put x 1\nget a y").plain())

    def test_against_a_second_reckoning(self):
        lot = random.Random(62)
        for told in [*programs(), *drawn_programs(62, 600)]:
            program = program_of(told)
            places = some_places(lot, told)
            found = fenced(program, places)
            self.assertEqual(found.plain(), fenced_told(told, places))
            self.assertEqual(bare(found).plain(), bare_told(told))
            others = some_places(lot, told)
            self.assertEqual(fenced(found, others).plain(), fenced_told(told, others))
            self.assertEqual(program.plain(), told)

    def test_plain_turns_stay_as_they_are(self):
        lot = random.Random(63)
        for told in drawn_programs(63, 150):
            program = program_of(told)
            try:
                self.assertEqual(outcomes(fenced(program, some_places(lot, told)), False), outcomes(program, False))
            except TooMuch:
                continue


class IsPlain(unittest.TestCase):
    def test_each_puts_and_gets_the_others_cell(self):
        self.assertIs(is_plain(CROSSED), False)
        self.assertIs(is_plain(CROSSED_FENCED), True)
        for place in ((0, 1), (1, 1)):
            self.assertIs(is_plain(fenced(CROSSED, [place])), False)

    def test_by_its_own_fences(self):
        ahead = read("cells x 0 y 0\nthread\nfence\nput x 1\nget a y\nfence\nthread\nfence\nput y 1\nget b x\nfence")
        self.assertIs(is_plain(ahead), False)

    def test_others(self):
        for text, plain in (
                ("cells x 0 y 0\nthread\nput x 1\nput y 1\nthread\nget a y\nget b x", True),
                ("cells x 0 y 0\nthread\nget a x\nput y 1\nthread\nget b y\nput x 1", True),
                ("cells x 0 y 0\nthread\nswap c x 1\nget a y\nthread\nswap d y 1\nget b x", True),
                ("cells x 0 y 0\nthread\nswap c x 1\nget a y\nthread\nput y 1\nget b x", False),
                ("cells x 0 y 0 z 0\nthread\nput x 1\nswap c z 0\nget a y\nthread\nput y 1\nswap d z 0\nget b x", True),
                ("cells x 0\nthread\nswap a x 1\nthread\nswap b x 2", True),
                ("cells x 0\nthread\nput x 1\nget a x", True),
                ("cells x 0 y 0\nthread\nput x 1\nget a x\nget b y\nthread\nput y 1\nget c y\nget d x", False),
                ("cells x 0\nthread", True), ("cells x 0\nthread\nfence\nthread\nthread", True)):
            self.assertIs(is_plain(read(text)), plain, text)

    def test_against_a_second_reckoning(self):
        counts = {True: 0, False: 0}
        for told in [*drawn_programs(64, 80), *crossed_programs(65, 80)]:
            found, plain = outcomes_met(told, True), outcomes_met(told, False)
            if found is None or plain is None:
                self.assertRaises(TooMuch, is_plain, program_of(told))
            else:
                self.assertIs(is_plain(program_of(told)), found <= plain)
                counts[found <= plain] += 1
        self.assertGreater(min(counts.values()), 10, counts)


class FencePlaces(unittest.TestCase):
    def need_places(self, text, places):
        found = fence_places(read(text))
        self.assertIs(type(found), list)
        self.assertEqual(found, places, text)

    def test_each_puts_and_gets_the_others_cell(self):
        self.assertEqual(fence_places(CROSSED), [(0, 1), (1, 1)])
        self.assertTrue(all(type(place) is tuple for place in fence_places(CROSSED)))

    def test_fences_that_it_has_are_not_there(self):
        self.assertEqual(fence_places(CROSSED_FENCED), [(0, 1), (1, 1)])
        self.need_places("cells x 0 y 0\nthread\nfence\nfence\nput x 1\nget a y\nthread\nput y 1\nfence\nfence\nget b x", [(0, 1), (1, 1)])

    def test_spared_only_because_a_later_one_is_left(self):
        self.need_places("cells x 0 y 0\nthread\nput x 1\nadd c 1 1\nget a y\nthread\nput y 1\nget b x", [(0, 2), (1, 1)])
        self.need_places("cells x 0 y 0\nthread\nput x 1\nadd c 1 1\nadd c 1 1\nget a y\nthread\nput y 1\nadd d 1 1\nget b x",
                         [(0, 3), (1, 2)])

    def test_the_get_may_stand_further_behind(self):
        self.need_places("cells x 0 y 0\nthread\nput x 1\nget a y\nget c y\nthread\nput y 1\nget b x", [(0, 1), (1, 1)])
        self.need_places("cells x 0 y 0\nthread\nput x 1\nget c x\nget a y\nthread\nput y 1\nget b x", [(0, 2), (1, 1)])

    def test_none_is_needed(self):
        for text in ("cells x 0 y 0\nthread\nput x 1\nput y 1\nthread\nget a y\nget b x",
                     "cells x 0 y 0\nthread\nput x 1\nget a x",
                     "cells x 0 y 0\nthread\nput x 1\nget a y\nthread\nget b x\nput y 1",
                     "cells x 0 y 0\nthread\nswap c x 1\nget a y\nthread\nswap d y 1\nget b x",
                     "cells x 0 y 0 z 0\nthread\nput x 1\nswap c z 0\nget a y\nthread\nput y 1\nswap d z 0\nget b x",
                     "cells x 0\nthread\nput x 1\nput x 2\nthread\nput x 3", "cells x 0\nthread\nget a x\nget b x\nthread\nget a x",
                     "cells x 0\nthread\nadd a 1 1\nskip a 1\nadd b 1 1", "cells x 0\nthread", "cells x 0\nthread\nthread\nthread",
                     "cells x 0\nthread\nfence\nfence\nthread\nfence"):
            self.need_places(text, [])

    def test_of_one_thread_and_a_swap(self):
        self.need_places("cells x 0 y 0\nthread\nput x 1\nget a y\nthread\nswap c y 1\nget b x", [(0, 1)])

    def test_with_skips(self):
        self.need_places("cells x 0 y 0\nthread\nput x 1\nskip c 1\nput x 2\nget a y\nthread\nput y 1\nget b x", [(0, 3), (1, 1)])

    def test_against_a_second_reckoning(self):
        many = 0
        for told in [*drawn_programs(66, 60), *crossed_programs(67, 60)]:
            left = places_left(told)
            if left is None:
                self.assertRaises(TooMuch, fence_places, program_of(told))
                continue
            program = program_of(told)
            self.assertEqual(fence_places(program), left)
            self.assertEqual(left, sorted(left))
            self.assertEqual(program.plain(), told)
            many += left != []
            for place in left:
                found = comes_back(program, left, place)
                self.assertIsNotNone(found)
                self.assertEqual(found, outcome_back(told, left, place))
        self.assertGreater(many, 12)

    def test_all_outcomes_are_plain_with_them(self):
        for told in crossed_programs(68, 120):
            program = program_of(told)
            try:
                left = fence_places(program)
                self.assertIs(is_plain(fenced(program, left)), True)
            except TooMuch:
                continue

    def test_what_was_told_is_the_askers_own(self):
        told = fence_places(CROSSED)
        told.clear()
        self.assertEqual(fence_places(CROSSED), [(0, 1), (1, 1)])


class ComesBack(unittest.TestCase):
    def test_what_comes_back_without_one(self):
        for place in ((0, 1), (1, 1)):
            for program in (CROSSED, CROSSED_FENCED):
                self.assertEqual(comes_back(program, [(0, 1), (1, 1)], place), BOTH_NONE)
                self.assertEqual(comes_back(program, [(1, 1), (0, 1)], place), BOTH_NONE)
        self.assertEqual(comes_back(CROSSED, [(0, 1)], (0, 1)), BOTH_NONE)

    def test_the_least_of_several(self):
        program = read("cells x 0 y 0\nthread\nput x 2\nget a y\nthread\nput y 1\nget b x\nthread\nput x 1")
        self.assertEqual(fence_places(program), [(0, 1), (1, 1)])
        several = [((1, 1), ((0,), (0,), ())), ((2, 1), ((0,), (0,), ())), ((2, 1), ((0,), (1,), ()))]
        self.assertEqual(sorted(set(outcomes(program)) - set(outcomes(program, False))), several)
        for place in ((0, 1), (1, 1)):
            without = outcomes(fenced(program, [other for other in ((0, 1), (1, 1)) if other != place]))
            self.assertEqual(comes_back(program, [(0, 1), (1, 1)], place), [one for one in several if one in without][0])
        self.assertEqual(comes_back(program, [(0, 1)], (0, 1)), several[0])

    def test_none_where_none_does(self):
        program = read("cells x 0 y 0\nthread\nput x 1\nadd c 1 1\nget a y\nthread\nput y 1\nget b x")
        self.assertIsNone(comes_back(program, [(0, 1), (0, 2), (1, 1)], (0, 1)))
        self.assertIsNone(comes_back(program, [(0, 1), (0, 2), (1, 1)], (0, 2)))
        self.assertEqual(comes_back(program, [(0, 2), (1, 1)], (0, 2)), ((1, 1), ((2, 0), (0,))))
        message = read("cells x 0 y 0\nthread\nput x 1\nput y 1\nthread\nget a y\nget b x")
        for place in ((0, 1), (1, 1)):
            self.assertIsNone(comes_back(message, [(0, 1), (1, 1)], place))

    def test_nothing_that_is_handed_in_is_changed(self):
        places = [(1, 1), (0, 1)]
        comes_back(CROSSED, places, (1, 1))
        self.assertEqual(places, [(1, 1), (0, 1)])

    def test_of_any_places_against_a_second_reckoning(self):
        lot = random.Random(69)
        counts = [0, 0]
        for told in crossed_programs(69, 150):
            places = some_places(lot, told)
            if not places:
                continue
            back = outcome_back(told, places, places[0])
            if back == "TooMuch":
                self.assertRaises(TooMuch, comes_back, program_of(told), places, places[0])
            else:
                self.assertEqual(comes_back(program_of(told), places, places[0]), back)
                counts[back is None] += 1
        self.assertGreater(min(counts), 15, counts)


class TooManyStates(unittest.TestCase):
    def need_too_much(self, ask, *handed):
        with self.assertRaises(TooMuch) as caught:
            ask(*handed)
        self.assertIs(type(caught.exception), TooMuch)
        self.assertIsInstance(caught.exception, FenceError)

    def test_is_plain(self):
        for told in MORE_THAN_2000 + PLAIN_JUST_2000 + PLAIN_MORE_THAN_2000:
            self.need_too_much(is_plain, program_of(told))
        for told in JUST_2000:
            self.assertIn(is_plain(program_of(told)), (True, False))

    def test_none_is_chosen_at_first_and_plain_turns_are_too_many(self):
        for told in NONE_CHOSEN_MORE_THAN_2000:
            self.assertEqual(chosen_at_first(told), [])
            self.assertIsNone(outcomes_met(told, False))
            self.assertIsNotNone(outcomes_met(told, False, 2002))
            self.need_too_much(fence_places, program_of(told))
            self.need_too_much(fence_places, fenced(program_of(told), [(0, 1), (2, 2)]))

    def test_none_is_chosen_at_first_and_plain_turns_are_just_as_many(self):
        for told in NONE_CHOSEN_JUST_2000:
            program = program_of(told)
            self.assertEqual(many_met(program, False), 2000)
            self.assertEqual(fence_places(program), [])

    def test_with_waiting_the_bare_one_is_not_looked_at_where_none_is_chosen(self):
        for told in NONE_CHOSEN_JUST_2000:
            self.need_too_much(outcomes, program_of(told))
            self.need_too_much(is_plain, program_of(told))
            self.assertEqual(fence_places(program_of(told)), [])

    def test_fences_that_it_has_do_not_count(self):
        for told in NONE_CHOSEN_JUST_2000:
            program = fenced(program_of(told), [(0, 1), (0, 2), (1, 1), (2, 2)])
            self.need_too_much(outcomes, program, False)
            self.assertEqual(fence_places(program), [])

    def test_nor_do_they_for_what_comes_back(self):
        told = ALL_CHOSEN_MORE_THAN_2000[1]
        program = fenced(program_of(told), [(thread, at) for thread, rows in enumerate(told[1]) for at in range(1, len(rows))])
        self.need_too_much(outcomes, program, False)
        self.assertEqual(comes_back(program, [(0, 1)], (0, 1)), outcome_back(told, [(0, 1)], (0, 1)))

    def test_with_all_that_are_chosen_at_first_it_is_not_looked_at(self):
        for told in ALL_CHOSEN_MORE_THAN_2000:
            program = program_of(told)
            self.need_too_much(outcomes, fenced(program, chosen_at_first(told)))
            self.assertEqual(fence_places(program), places_left(told))

    def test_without_any_it_is_not_looked_at_where_some_are_left(self):
        for told in BARE_MORE_THAN_2000:
            program = program_of(told)
            self.need_too_much(outcomes, program)
            left = fence_places(program)
            self.assertEqual(left, places_left(told))
            self.assertEqual(len(left), 2)
            self.assertIs(is_plain(fenced(program, left)), True)

    def test_place_by_place(self):
        for told in FENCED_MORE_THAN_2000:
            self.assertIsNotNone(outcomes_met(told, False))
            self.assertIsNone(places_left(told))
            self.need_too_much(fence_places, program_of(told))
            self.need_too_much(fence_places, fenced(program_of(told), [(0, 1)]))

    def test_comes_back(self):
        for told in NONE_CHOSEN_MORE_THAN_2000 + BARE_MORE_THAN_2000:
            self.need_too_much(comes_back, program_of(told), [(0, 1)], (0, 1))
        for told in BARE_MORE_THAN_2000:
            program = program_of(told)
            left = fence_places(program)
            for place in left:
                self.assertEqual(comes_back(program, left, place), outcome_back(told, left, place))
                self.need_too_much(comes_back, program, [place], place)

    def test_nothing_is_left_behind_a_refusal(self):
        self.need_too_much(fence_places, program_of(FENCED_MORE_THAN_2000[0]))
        self.assertEqual(fence_places(CROSSED), [(0, 1), (1, 1)])


if __name__ == "__main__":
    unittest.main()
