"""What is said of moments: word by word, with waiting and without."""

import itertools
import unittest

from fencerow.building import program_of
from fencerow.orders import said
from fencerow.reading import read
from programs import drawn_programs
from second import cell_of, is_of, may_be_seen, places_of

CROSSED = read("cells x 0 y 0\nthread\nput x 1\nget a y\nthread\nput y 1\nget b x")
BOTH_NONE = ((3, 3), {(0, 1): None, (1, 1): None}, (((0, 0),), ((1, 0),)))
WORDS = ("cell", "fence", "from", "next", "out", "own", "queue", "row")


class Saying(unittest.TestCase):
    def need_said(self, program, seen, word, waiting, plain):
        """What is said by the word; each moment as a text of its three figures."""
        for waits, pairs in ((True, waiting), (False, plain)):
            told = [saying for saying in said(program, seen, waits) if saying[0] == word]
            self.assertEqual([" ".join("".join(map(str, moment)) for moment in saying[1:]) for saying in told], pairs, (word, waits))


class Words(Saying):
    def test_row(self):
        program = read("cells x 1\nthread\nget a x\nskip a 1\nput x 2\nfence\nthread\nadd b 1 1\nswap b x 2")
        seen = ((15, 3), {(0, 0): None, (1, 1): (0, 2)}, (((0, 2), (1, 1)),))
        rows = ["000 010", "010 020", "020 030", "100 110"]
        self.need_said(program, seen, "row", rows, rows)

    def test_row_past_rows_that_were_gone_over(self):
        program = read("cells x 0\nthread\nfence\nskip a 2\nput x 1\nput x 1\nfence")
        rows = ["000 010", "010 040"]
        self.need_said(program, ((19,), {}, ((),)), "row", rows, rows)

    def test_out(self):
        program = read("cells x 0\nthread\nput x 1\nput x 1\nswap a x 1\nget a x\nthread\nput x 1\nfence")
        seen = ((15, 3), {(0, 2): None, (0, 3): None}, (((0, 0), (0, 1), (0, 2), (1, 0)),))
        self.need_said(program, seen, "out", ["000 001", "010 011", "100 101"], [])

    def test_out_of_done_puts_alone(self):
        program = read("cells x 0\nthread\nskip a 1\nput x 1\nput x 1")
        self.need_said(program, ((5,), {}, (((0, 2),),)), "out", ["020 021"], [])

    def test_queue(self):
        program = read("cells x 0 y 0\nthread\nput x 1\nget a x\nput y 1\nput x 1\nthread\nput x 1")
        seen = ((15, 1), {(0, 1): None}, (((0, 0), (0, 3), (1, 0)), ((0, 2),)))
        self.need_said(program, seen, "queue", ["001 021", "021 031"], ["000 020", "020 030"])

    def test_queue_past_swaps_and_rows_that_were_gone_over(self):
        program = read("cells x 0\nthread\nput x 1\nswap a x 1\nskip a 1\nput x 2\nput x 1")
        seen = ((1 + 2 + 4 + 16,), {(0, 1): (0, 0)}, (((0, 0), (0, 1), (0, 4)),))
        self.need_said(program, seen, "queue", ["001 041"], ["000 040"])

    def test_fence(self):
        program = read("cells x 0\nthread\nfence\nput x 1\nput x 2\nfence\nswap a x 1\nget a x\nput x 3\nthread\nfence\nput x 3")
        seen = ((127, 3), {(0, 4): (0, 2), (0, 5): (0, 4)}, (((0, 1), (0, 2), (0, 4), (0, 6), (1, 1)),))
        self.need_said(program, seen, "fence", ["011 030", "011 040", "021 030", "021 040"], ["010 030", "010 040", "020 030", "020 040"])

    def test_fence_of_done_rows_alone(self):
        program = read("cells x 0\nthread\nput x 1\nskip a 2\nput x 2\nfence\nswap b x 1")
        seen = ((1 + 2 + 16,), {(0, 4): None}, (((0, 0), (0, 4)),))
        self.need_said(program, seen, "fence", ["001 040"], ["000 040"])

    def test_cell(self):
        program = read("cells x 0 y 0\nthread\nput x 1\nput y 1\nthread\nswap a x 1\nput y 1\nthread\nput x 1")
        seen = ((3, 3, 1), {(1, 0): None}, (((2, 0), (1, 0), (0, 0)), ((0, 1), (1, 1))))
        self.need_said(program, seen, "cell", ["011 111", "100 001", "201 100"], ["010 110", "100 000", "200 100"])

    def test_next(self):
        program = read("cells x 0\nthread\nput x 1\nput x 2\nthread\nget a x\nget b x\nget c x")
        order = (((0, 0), (0, 1)),)
        for sources, waiting, plain in ((((0, 0), (0, 1), None), ["100 011", "120 001"], ["100 010", "120 000"]),
                                        (((0, 1), (0, 1), (0, 1)), [], []),
                                        ((None, None, None), ["100 001", "110 001", "120 001"], ["100 000", "110 000", "120 000"])):
            seen = ((3, 7), dict(zip(((1, 0), (1, 1), (1, 2)), sources)), order)
            self.need_said(program, seen, "next", waiting, plain)

    def test_next_where_no_put_was_done(self):
        program = read("cells x 0 y 0\nthread\nget a x\nthread\nput y 1")
        self.need_said(program, ((1, 1), {(0, 0): None}, ((), ((1, 0),))), "next", [], [])

    def test_next_of_a_swap(self):
        program = read("cells x 0\nthread\nswap a x 1\nthread\nput x 2")
        for source, order, waiting, plain in ((None, ((0, 0), (1, 0)), [], []), (None, ((1, 0), (0, 0)), ["000 101"], ["000 100"]),
                                              ((1, 0), ((1, 0), (0, 0)), [], []), ((1, 0), ((0, 0), (1, 0)), [], [])):
            self.need_said(program, ((1, 1), {(0, 0): source}, (order,)), "next", waiting, plain)

    def test_next_of_a_swap_ahead_of_another_swap(self):
        program = read("cells x 0\nthread\nswap a x 1\nthread\nswap b x 2")
        seen = ((1, 1), {(0, 0): None, (1, 0): None}, (((0, 0), (1, 0)),))
        self.need_said(program, seen, "next", ["100 000"], ["100 000"])

    def test_from(self):
        program = read("cells x 0\nthread\nput x 1\nthread\nswap a x 1\nthread\nget b x\nget c x\nget d x")
        seen = ((1, 1, 7), {(1, 0): (0, 0), (2, 0): (0, 0), (2, 1): (1, 0), (2, 2): None}, (((0, 0), (1, 0)),))
        self.need_said(program, seen, "from", ["001 100", "001 200", "100 210"], ["000 100", "000 200", "100 210"])

    def test_from_not_of_its_own_newest_put(self):
        program = read("cells x 0\nthread\nput x 1\nput x 2\nget a x")
        order = (((0, 0), (0, 1)),)
        self.need_said(program, ((7,), {(0, 2): (0, 1)}, order), "from", [], [])
        self.need_said(program, ((7,), {(0, 2): (0, 0)}, order), "from", ["001 020"], ["000 020"])

    def test_from_of_its_own_put_behind_it(self):
        program = read("cells x 0\nthread\nget a x\nput x 1")
        self.need_said(program, ((3,), {(0, 0): (0, 1)}, (((0, 1),),)), "from", ["011 000"], ["010 000"])

    def test_from_of_a_swap(self):
        program = read("cells x 0\nthread\nput x 1\nswap a x 2\nget b x\nswap c x 3")
        order = (((0, 0), (0, 1), (0, 3)),)
        self.need_said(program, ((15,), {(0, 1): (0, 0), (0, 2): (0, 1), (0, 3): (0, 1)}, order), "from", ["010 020", "010 030"], ["010 020", "010 030"])
        # The swap between does not take the newest put's place.
        self.need_said(program, ((15,), {(0, 1): None, (0, 2): (0, 0), (0, 3): (0, 0)}, order), "from", [], [])

    def test_own(self):
        program = read("cells x 0 y 0\nthread\nput x 1\nput x 2\nput y 1\nget a x\nput x 3\nthread\nput x 4")
        order = (((0, 0), (0, 1), (0, 4), (1, 0)), ((0, 2),))
        for source in (None, (0, 0), (0, 4), (1, 0)):
            self.need_said(program, ((31, 1), {(0, 3): source}, order), "own", ["011 030"], ["010 030"])
        self.need_said(program, ((31, 1), {(0, 3): (0, 1)}, order), "own", [], [])

    def test_own_of_done_puts_on_that_cell_alone(self):
        program = read("cells x 0 y 0\nthread\nput x 1\nskip a 1\nput x 2\nput y 1\nget b x\nthread\nput x 4")
        done = (1 + 2 + 8 + 16, 1)
        order = (((0, 0), (1, 0)), ((0, 3),))
        for source in (None, (1, 0)):
            self.need_said(program, (done, {(0, 4): source}, order), "own", ["001 040"], ["000 040"])
        self.need_said(program, (done, {(0, 4): (0, 0)}, order), "own", [], [])

    def test_own_not_of_swaps(self):
        program = read("cells x 0\nthread\nput x 1\nswap a x 2\nget b x")
        order = (((0, 0), (0, 1)),)
        self.need_said(program, ((7,), {(0, 1): None, (0, 2): (0, 1)}, order), "own", ["001 020"], ["000 020"])
        self.need_said(program, ((7,), {(0, 1): None, (0, 2): (0, 0)}, order), "own", [], [])
        swaps = read("cells x 0\nthread\nswap a x 2\nget b x")
        self.need_said(swaps, ((3,), {(0, 0): None, (0, 1): None}, (((0, 0),),)), "own", [], [])


class Whole(Saying):
    def test_each_puts_and_gets_the_others_cell(self):
        rows = [("row", (0, 0, 0), (0, 1, 0)), ("row", (1, 0, 0), (1, 1, 0))]
        waiting = [("next", (0, 1, 0), (1, 0, 1)), ("next", (1, 1, 0), (0, 0, 1)), ("out", (0, 0, 0), (0, 0, 1)), ("out", (1, 0, 0), (1, 0, 1))] + rows
        self.assertEqual(said(CROSSED, BOTH_NONE), waiting)
        self.assertEqual(said(CROSSED, BOTH_NONE, True), waiting)
        self.assertEqual(said(CROSSED, BOTH_NONE, waits=True), waiting)
        plain = [("next", (0, 1, 0), (1, 0, 0)), ("next", (1, 1, 0), (0, 0, 0))] + rows
        self.assertEqual(said(CROSSED, BOTH_NONE, False), plain)
        self.assertEqual(said(CROSSED, BOTH_NONE, waits=False), plain)

    def test_without_rows(self):
        program = read("cells x 0 y 0\nthread\nthread")
        for waits in (True, False):
            self.assertEqual(said(program, ((0, 0), {}, ((), ())), waits), [])

    def test_one_row(self):
        for row, seen in (("fence", ((1,), {}, ((),))), ("get a x", ((1,), {(0, 0): None}, ((),))), ("swap a x 1", ((1,), {(0, 0): None}, (((0, 0),),)))):
            for waits in (True, False):
                self.assertEqual(said(read("cells x 0\nthread\n" + row), seen, waits), [])
        put = read("cells x 0\nthread\nput x 1")
        self.assertEqual(said(put, ((1,), {}, (((0, 0),),))), [("out", (0, 0, 0), (0, 0, 1))])
        self.assertEqual(said(put, ((1,), {}, (((0, 0),),)), False), [])

    def test_words_that_say_the_same_are_each_said(self):
        program = read("cells x 0\nthread\nput x 1\nput x 2\nfence\nthread\nget a x\nget b x")
        seen = ((7, 3), {(1, 0): None, (1, 1): (0, 1)}, (((0, 0), (0, 1)),))
        told = said(program, seen)
        self.assertEqual([saying for saying in told if saying[1:] == ((0, 0, 1), (0, 1, 1))],
                         [("cell", (0, 0, 1), (0, 1, 1)), ("queue", (0, 0, 1), (0, 1, 1))])

    def test_its_kinds_and_that_it_is_the_askers_own(self):
        told = said(CROSSED, BOTH_NONE)
        kept = list(told)
        self.assertIs(type(told), list)
        for part in told + [moment for saying in told for moment in saying[1:]]:
            self.assertIs(type(part), tuple)
        told.clear()
        self.assertEqual(said(CROSSED, BOTH_NONE), kept)


def asked(told, seen, waits):
    """All that is to be said, looked for pair by pair."""
    done, sources, orders = seen
    places = [place for place in places_of(told) if done[place[0]] >> place[1] & 1]
    sayings = set()

    def moments(early, late):
        return [place + (int(out and waits and is_of(told, place, "put")),) for place, out in (early, late)]

    def say(word, early, late, early_out, late_out):
        pair = moments((early, early_out), (late, late_out))
        if pair[0] != pair[1]:
            sayings.add((word, *pair))

    def newest_own(getter):
        return max([put for put in places if put[0] == getter[0] and put < getter and is_of(told, put, "put")
                    and cell_of(told, put) == cell_of(told, getter)], default=None)

    for place in places:
        if is_of(told, place, "put"):
            say("out", place, place, False, True)
    for early, late in itertools.permutations(places, 2):
        in_turn = early[0] == late[0] and early < late
        between = [place for place in places if early < place < late]
        puts = is_of(told, early, "put") and is_of(told, late, "put")
        if in_turn and not between:
            say("row", early, late, False, False)
        if in_turn and puts and not any(is_of(told, place, "put") for place in between):
            say("queue", early, late, True, True)
        if in_turn and is_of(told, early, "put") and is_of(told, late, "fence", "swap"):
            say("fence", early, late, True, False)
        if any((early, late) == pair for order in orders for pair in zip(order, order[1:])):
            say("cell", early, late, True, True)
        if early in sources:
            order = orders[cell_of(told, early)]
            if (sources[early], late) in zip((None,) + order, order):
                say("next", early, late, False, True)
        if sources.get(late) == early and newest_own(late) != early:
            say("from", early, late, True, False)
        if is_of(told, late, "get") and newest_own(late) == early and sources[late] != early:
            say("own", early, late, True, False)
    return sorted(sayings)


class AgainstPairByPair(unittest.TestCase):
    def test_drawn_programs(self):
        words = {True: set(), False: set()}
        for told in drawn_programs(41, 300):
            program = program_of(told)
            for seen in (may_be_seen(told, 4000) or ())[::7]:
                for waits in (True, False):
                    sayings = said(program, seen, waits)
                    self.assertEqual(sayings, asked(told, seen, waits))
                    words[waits].update(word for word, early, late in sayings)
        self.assertEqual(words[True], set(WORDS))
        self.assertEqual(words[False], set(WORDS) - {"out"})


if __name__ == "__main__":
    unittest.main()
