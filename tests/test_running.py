"""Texts looked at: the program, the texts of outcomes, and the text with fences put in."""

import unittest

from fencerow.building import program_of
from fencerow.errors import BadText, TooMuch
from fencerow.fences import bare, fence_places, fenced, is_plain
from fencerow.gathering import outcomes
from fencerow.reading import read
from fencerow.rows import Program
from fencerow.running import looked, outcome_texts, plain_with
from fencerow.showing import shown
from programs import (BARE_MORE_THAN_2000, FENCED_MORE_THAN_2000, JUST_2000, MORE_THAN_2000, NONE_CHOSEN_JUST_2000,
                      NONE_CHOSEN_MORE_THAN_2000, PLAIN_JUST_2000, PLAIN_MORE_THAN_2000, crossed_programs, drawn_programs, programs)

CROSSED = "cells x 0 y 0\nthread\nput x 1\nget a y\nthread\nput y 1\nget b x"
CROSSED_FENCED = "cells x 0 y 0\nthread\nput x 1\nfence\nget a y\nthread\nput y 1\nfence\nget b x"
LOOSE = "\n# both put first\n  cells   x 0  y 0 #two\n\nthread\n put x 1\nfence # is not needed\n\nget a   y\n   thread#\nput y 1\nget b x\n\n"
BAD = (("", 2), ("cells x 0", 2), ("cells x 0\n", 3), ("thread", 1), ("cells x 0\nthread\nput y 1", 3), ("cells x 0\nthread\nskip a 1", 3),
       ("cells x 0\nthread\nput x 1\n\nget x a", 5), ("cells x 00\nthread", 1), (CROSSED + "\nbad", 8), (CROSSED.replace("put y", "put z"), 6))
NO_TEXTS = (None, 0, 1, True, False, [], ["cells x 0", "thread"], (), {}, read(CROSSED), ("cells x 0\nthread",))
ALL = (looked, outcome_texts, lambda text: outcome_texts(text, True), lambda text: outcome_texts(text, False), plain_with)


class Looked(unittest.TestCase):
    def test_it_is_the_program(self):
        for text in (CROSSED, CROSSED_FENCED, LOOSE, "cells x 7\nthread"):
            found = looked(text)
            self.assertIsInstance(found, Program)
            self.assertEqual(found.plain(), read(text).plain())

    def test_each_program(self):
        for told in programs():
            self.assertEqual(looked(shown(program_of(told))).plain(), told)

    def test_however_many_states_are_met(self):
        for told in MORE_THAN_2000 + PLAIN_MORE_THAN_2000 + NONE_CHOSEN_MORE_THAN_2000:
            self.assertEqual(looked(shown(program_of(told))).plain(), told)


class OutcomeTexts(unittest.TestCase):
    def test_cells_and_boxes(self):
        plain = ["x=1 y=1 0:a=0 1:b=1", "x=1 y=1 0:a=1 1:b=0", "x=1 y=1 0:a=1 1:b=1"]
        waiting = ["x=1 y=1 0:a=0 1:b=0"] + plain
        for found in (outcome_texts(CROSSED), outcome_texts(CROSSED, True), outcome_texts(CROSSED, waits=True)):
            self.assertIs(type(found), list)
            self.assertEqual(found, waiting)
        self.assertEqual(outcome_texts(CROSSED, False), plain)
        self.assertEqual(outcome_texts(CROSSED, waits=False), plain)
        for waits in (True, False):
            self.assertEqual(outcome_texts(CROSSED_FENCED, waits), plain)
        self.assertEqual(outcome_texts(text=CROSSED), waiting)

    def test_with_remarks_blanks_and_empty_lines(self):
        self.assertEqual(outcome_texts(LOOSE), outcome_texts(CROSSED))
        self.assertEqual(outcome_texts(LOOSE, False), outcome_texts(CROSSED, False))

    def test_boxes_in_the_order_in_which_they_first_stand(self):
        text = "cells x 1 y 0\nthread\nput x d\nget c x\nadd a b 2\nthread\nget c y"
        self.assertEqual(outcome_texts(text), ["x=0 y=0 0:d=0 c=0 a=2 b=0 1:c=0"])
        self.assertEqual(outcome_texts("cells x 1 y 0\nthread\nget a x\nadd b a 1\nthread\nget c y"), ["x=1 y=0 0:a=1 b=2 1:c=0"])

    def test_cells_in_the_order_in_which_they_stand(self):
        self.assertEqual(outcome_texts("cells zz 10 abcdef 9 m 0\nthread"), ["zz=10 abcdef=9 m=0"])

    def test_threads_without_boxes_are_left_out(self):
        for text, told in (("cells x 3\nthread", "x=3"), ("cells x 3\nthread\nthread\nthread", "x=3"),
                           ("cells x 3\nthread\nput x 4\nfence\nthread\nget a x", None),
                           ("cells x 3\nthread\nthread\nadd a 1 1\nthread", "x=3 1:a=2"),
                           ("cells x 3\nthread\nthread\nthread\nskip long 0", "x=3 2:long=0"),
                           ("cells x 3\nthread\nadd a 99 0\nthread\nthread\nadd a 1 0", "x=3 0:a=99 2:a=1")):
            for waits in (True, False):
                self.assertEqual(outcome_texts(text, waits), ["x=4 1:a=3", "x=4 1:a=4"] if told is None else [told])

    def test_in_the_order_of_outcomes_and_not_of_texts(self):
        text = "cells x 5\nthread\nput x 10\nthread\nput x 9\nthread\nput x 80"
        self.assertEqual(outcome_texts(text), ["x=9", "x=10", "x=80"])

    def test_what_was_told_is_the_askers_own(self):
        told = outcome_texts(CROSSED)
        told.clear()
        self.assertEqual(len(outcome_texts(CROSSED)), 4)

    def second_telling(self, told, outcome):
        names = [name for name, number in told[0]]
        text = ",".join(f"{name}={number}" for name, number in zip(names, outcome[0]))
        for thread, rows in enumerate(told[1]):
            boxes = list(dict.fromkeys(part for row in rows for part in row[1:] if isinstance(part, str) and part not in names))
            for place, box in enumerate(boxes):
                text += f",{thread}:" * (place == 0) + "," * (place > 0) + f"{box}={outcome[1][thread][place]}"
        return text.replace(",", " ")

    def test_of_each_program(self):
        many = 0
        for told in [*drawn_programs(75, 80), *crossed_programs(76, 40), *list(programs())[::5]]:
            program = program_of(told)
            for waits in (True, False):
                try:
                    found = outcomes(program, waits)
                except TooMuch:
                    self.assertRaises(TooMuch, outcome_texts, shown(program), waits)
                    continue
                texts = outcome_texts(shown(program), waits)
                self.assertEqual(texts, [self.second_telling(told, outcome) for outcome in found])
                self.assertEqual(len(set(texts)), len(found))
                many += 1
        self.assertGreater(many, 200)


class PlainWith(unittest.TestCase):
    def test_fences_are_put_in(self):
        for text in (CROSSED, CROSSED_FENCED, LOOSE):
            self.assertEqual(plain_with(text), CROSSED_FENCED)
        self.assertEqual(plain_with(text=CROSSED), CROSSED_FENCED)

    def test_fences_that_are_not_needed_are_left_out(self):
        text = "cells x 0 y 0\nthread\nfence\nput x 1\nfence\nput y 1\nfence\nthread\nget a y\nfence\nget b x"
        self.assertEqual(plain_with(text), "cells x 0 y 0\nthread\nput x 1\nput y 1\nthread\nget a y\nget b x")
        for text in ("cells x 0\nthread", "cells x 0\nthread\nthread\nthread", "cells x 0\nthread\nput x 1\nget a x"):
            self.assertEqual(plain_with(text), text)
        self.assertEqual(plain_with("cells x 0\nthread\nfence\nfence"), "cells x 0\nthread")

    def test_skips_lead_where_they_led(self):
        text = "cells x 0 y 0\nthread\nput x 1\nskip c 2\nfence\nput x 2\nget a y\nthread\nput y 1\nskip d 1\nadd d 1 1\nget b x"
        self.assertEqual(plain_with(text), "cells x 0 y 0\nthread\nput x 1\nskip c 1\nput x 2\nfence\nget a y\n"
                         "thread\nput y 1\nskip d 1\nadd d 1 1\nfence\nget b x")

    def test_it_reads_as_the_bare_program_with_fences_and_is_plain(self):
        many = 0
        for told in [*drawn_programs(77, 100), *crossed_programs(78, 100), *BARE_MORE_THAN_2000]:
            program = program_of(told)
            try:
                places = fence_places(program)
            except TooMuch:
                self.assertRaises(TooMuch, plain_with, shown(program))
                continue
            text = plain_with(shown(program))
            found = read(text)
            self.assertEqual(shown(found), text)
            self.assertEqual(found.plain(), fenced(program, places).plain())
            self.assertEqual(bare(found).plain(), bare(program).plain())
            self.assertEqual(fence_places(found), places)
            self.assertEqual(plain_with(text), text)
            try:
                self.assertIs(is_plain(found), True)
                self.assertEqual(outcome_texts(text), outcome_texts(shown(program), False))
                many += places != []
            except TooMuch:
                continue
        self.assertGreater(many, 30)


class Refusing(unittest.TestCase):
    def need_bad(self, ask, text, line):
        with self.assertRaises(BadText) as caught:
            ask(text)
        self.assertIs(type(caught.exception), BadText)
        self.assertEqual(caught.exception.line, line)

    def need_too_much(self, ask, told):
        with self.assertRaises(TooMuch) as caught:
            ask(shown(program_of(told)))
        self.assertIs(type(caught.exception), TooMuch)

    def test_bad_texts_by_their_line(self):
        for ask in ALL:
            for text, line in BAD:
                self.need_bad(ask, text, line)

    def test_what_is_no_text(self):
        for ask in ALL:
            for text in NO_TEXTS:
                self.need_bad(ask, text, 0)

    def test_bad_texts_ahead_of_too_much(self):
        for told in (PLAIN_MORE_THAN_2000 + NONE_CHOSEN_MORE_THAN_2000)[::2]:
            text = shown(program_of(told))
            line = len(text.split("\n")) + 1
            for ask in ALL:
                for marred in (text + "\nput nocell 1", text + "\nskip a 1", text + "\nthread"):
                    self.need_bad(ask, marred, line)

    def test_too_much_of_outcomes(self):
        for told in MORE_THAN_2000 + PLAIN_MORE_THAN_2000 + PLAIN_JUST_2000:
            self.need_too_much(outcome_texts, told)
            self.need_too_much(lambda text: outcome_texts(text, True), told)
        for told in PLAIN_MORE_THAN_2000:
            self.need_too_much(lambda text: outcome_texts(text, False), told)

    def test_just_as_many_as_may_be(self):
        for told in JUST_2000:
            self.assertEqual(len(outcome_texts(shown(program_of(told)))), len(outcomes(program_of(told))))
        for told in PLAIN_JUST_2000:
            self.assertEqual(len(outcome_texts(shown(program_of(told)), False)), len(outcomes(program_of(told), False)))
        for told in NONE_CHOSEN_JUST_2000:
            self.assertEqual(plain_with(shown(program_of(told))), shown(program_of(told)))

    def test_too_much_of_fences(self):
        for told in NONE_CHOSEN_MORE_THAN_2000 + FENCED_MORE_THAN_2000:
            self.need_too_much(plain_with, told)


if __name__ == "__main__":
    unittest.main()
