"""What was seen: told of ways, and refused by its first part that is wrong."""

import copy
import unittest

from fencerow.building import program_of
from fencerow.errors import BadSeen, FenceError
from fencerow.orders import said
from fencerow.reading import read
from fencerow.rings import ring_of, way_of
from fencerow.seen import need_seen, seen_by
from fencerow.states import begun
from fencerow.steps import after, can
from programs import FENCE, drawn_programs
from second import last_nodes, may_be_seen, seen_along

WIDE = read("""cells x 0 y 0
thread
put x 1
get a x
skip a 2
put y 2
swap b y 3
fence
thread
put x 2
swap c x 4
get d y""")
DONE = (63, 7)
SOURCES = {(0, 1): (0, 0), (0, 4): (0, 3), (1, 1): (1, 0), (1, 2): None}
ORDERS = (((0, 0), (1, 0), (1, 1)), ((0, 3), (0, 4)))
SEEN = (DONE, SOURCES, ORDERS)
# With the skip going over its rows.
OVER = ((39, 7), {(0, 1): None, (1, 1): (0, 0), (1, 2): None}, (((1, 1), (1, 0), (0, 0)), ()))


def drawn_way(program, waits, pick):
    """A whole way, another one for another pick."""
    way = []
    state = begun(program)
    while can(program, state, waits):
        choices = can(program, state, waits)
        way.append(choices[pick * (len(way) + 3) // 2 % len(choices)])
        state = after(program, state, way[-1], waits)
    return way


class Seen(unittest.TestCase):
    def need_seen_by(self, text, way, seen, waits=True):
        program = read(text)
        told = seen_by(program, way, waits)
        self.assertEqual(told, seen)
        self.assertIsNone(need_seen(program, told))

    def test_without_rows(self):
        self.need_seen_by("cells x 0\nthread", [], ((0,), {}, ((),)))
        self.need_seen_by("cells x 0 y 1 z 2\nthread\nthread\nthread", [], ((0, 0, 0), {}, ((), (), ())))

    def test_rows_that_are_about_no_cell(self):
        for waits in (True, False):
            self.need_seen_by("cells x 0\nthread\nadd a 1 1\nfence\nskip a 1\nfence", [0, 0, 0, 0], ((15,), {}, ((),)), waits)

    def test_its_own_put_while_it_waits_and_behind(self):
        seen = ((3,), {(0, 1): (0, 0)}, (((0, 0),),))
        for way in ([0, 0, 1], [0, 1, 0]):
            self.need_seen_by("cells x 0\nthread\nput x 1\nget a x", way, seen)
        self.need_seen_by("cells x 0\nthread\nput x 1\nget a x", [0, 0], seen, False)

    def test_the_newest_of_its_own_on_that_cell(self):
        text = "cells x 0 y 0\nthread\nput x 1\nput x 1\nput y 1\nget a x"
        seen = ((15,), {(0, 3): (0, 1)}, (((0, 0), (0, 1)), ((0, 2),)))
        for way in ([0, 0, 0, 0, 1, 1, 1], [0, 1, 0, 0, 0, 1, 1], [0, 0, 1, 0, 1, 0, 1], [0, 0, 0, 1, 1, 1, 0]):
            self.need_seen_by(text, way, seen)

    def test_another_threads_put_and_the_first_number(self):
        text = "cells x 1\nthread\nput x 1\nthread\nget a x"
        for way, source in (([0, 1, 2], (0, 0)), ([0, 2, 1], None), ([2, 0, 1], None)):
            self.need_seen_by(text, way, ((1, 1), {(1, 0): source}, (((0, 0),),)))
        for way, source in (([0, 2], (0, 0)), ([2, 0], None)):
            self.need_seen_by(text, way, ((1, 1), {(1, 0): source}, (((0, 0),),)), False)

    def test_another_threads_put_above_its_own(self):
        text = "cells x 0\nthread\nput x 1\nget a x\nthread\nput x 1"
        mine, other = (0, 0), (1, 0)
        for way, source, order in (([0, 1, 2, 3, 0], other, (mine, other)), ([0, 1, 2, 0, 3], mine, (mine, other)),
                                   ([2, 3, 0, 0, 1], mine, (other, mine)), ([0, 2, 3, 0, 1], mine, (other, mine)),
                                   ([0, 2, 3, 1, 0], mine, (other, mine))):
            self.need_seen_by(text, way, ((3, 1), {(0, 1): source}, (order,)))
        for way, source, order in (([0, 2, 0], other, (mine, other)), ([0, 0, 2], mine, (mine, other)), ([2, 0, 0], mine, (other, mine))):
            self.need_seen_by(text, way, ((3, 1), {(0, 1): source}, (order,)), False)

    def test_puts_that_come_out_the_other_way_round(self):
        text = "cells x 0\nthread\nput x 1\nthread\nput x 2"
        for way in ([0, 2, 3, 1], [2, 0, 3, 1], [2, 3, 0, 1]):
            self.need_seen_by(text, way, ((1, 1), {}, (((1, 0), (0, 0)),)))
        for way in ([0, 2, 1, 3], [2, 0, 1, 3], [0, 1, 2, 3]):
            self.need_seen_by(text, way, ((1, 1), {}, (((0, 0), (1, 0)),)))
        self.need_seen_by(text, [0, 2], ((1, 1), {}, (((0, 0), (1, 0)),)), False)
        self.need_seen_by(text, [2, 0], ((1, 1), {}, (((1, 0), (0, 0)),)), False)

    def test_swaps(self):
        text = "cells x 0\nthread\nswap a x 1\nswap b x 1\nthread\nswap c x 1"
        for way, sources, order in (([0, 0, 2], (None, (0, 0), (0, 1)), ((0, 0), (0, 1), (1, 0))),
                                    ([0, 2, 0], (None, (1, 0), (0, 0)), ((0, 0), (1, 0), (0, 1))),
                                    ([2, 0, 0], ((1, 0), (0, 0), None), ((1, 0), (0, 0), (0, 1)))):
            for waits in (True, False):
                self.need_seen_by(text, way, ((3, 1), dict(zip(((0, 0), (0, 1), (1, 0)), sources)), (order,)), waits)

    def test_swaps_behind_puts(self):
        text = "cells x 0\nthread\nput x 1\nswap a x 2\nget b x\nthread\nput x 3"
        seen = ((7, 1), {(0, 1): (0, 0), (0, 2): (0, 1)}, (((0, 0), (0, 1), (1, 0)),))
        self.need_seen_by(text, [0, 1, 0, 0, 2, 3], seen)
        self.need_seen_by(text, [2, 0, 1, 0, 0, 3], seen)
        self.need_seen_by(text, [0, 0, 0, 2], seen, False)
        seen = ((7, 1), {(0, 1): (1, 0), (0, 2): (0, 1)}, (((0, 0), (1, 0), (0, 1)),))
        self.need_seen_by(text, [0, 1, 2, 3, 0, 0], seen)
        self.need_seen_by(text, [0, 2, 0, 0], seen, False)

    def test_skips_that_go_over_rows(self):
        text = "cells x 0 y 0\nthread\nskip a 2\nput x 1\nget b x\nfence\nthread\nput y 5"
        self.need_seen_by(text, [0, 0, 2, 3], ((9, 1), {}, ((), ((1, 0),))))
        self.need_seen_by(text, [2, 0, 0], ((9, 1), {}, ((), ((1, 0),))), False)

    def test_skips_that_do_not(self):
        text = "cells x 1 y 0\nthread\nget a x\nskip a 2\nput x 2\nget b x\nskip a 0"
        seen = ((31,), {(0, 0): None, (0, 3): (0, 2)}, (((0, 2),), ()))
        self.need_seen_by(text, [0, 0, 0, 0, 0, 1], seen)
        self.need_seen_by(text, [0, 0, 0, 0, 0], seen, False)

    def test_skips_to_the_end(self):
        for waits in (True, False):
            self.need_seen_by("cells x 0\nthread\nfence\nskip a 3\nfence\nput x 1\nswap a x 1", [0, 0], ((3,), {}, ((),)), waits)

    def test_cells_in_their_order(self):
        text = "cells x 0 y 0 z 0\nthread\nput z 1\nput y 1\nthread\nget a z\nswap b y 1"
        seen = ((3, 3), {(1, 0): (0, 0), (1, 1): None}, ((), ((1, 1), (0, 1)), ((0, 0),)))
        self.need_seen_by(text, [0, 0, 1, 2, 2, 1], seen)
        self.need_seen_by(text, [0, 2, 2, 0], seen, False)

    def test_waiting_where_nothing_is_told_of_it(self):
        program = read("cells x 0\nthread\nput x 1\nthread\nput x 2")
        self.assertEqual(seen_by(program, [0, 2, 3, 1]), seen_by(program, [0, 2, 3, 1], waits=True))
        self.assertEqual(seen_by(program, [0, 2], waits=False), ((1, 1), {}, (((0, 0), (1, 0)),)))

    def test_its_kinds(self):
        told = seen_by(WIDE, [0, 0, 0, 0, 1, 1, 0, 0, 2, 3, 2, 2])
        self.assertEqual(told, ((63, 7), {**SOURCES, (1, 2): (0, 4)}, ORDERS))
        self.assertIs(type(told[1]), dict)
        for part in (told, told[0], told[2], *told[2], *told[1], told[1][0, 1], *told[2][0]):
            self.assertIs(type(part), tuple)

    def test_it_is_the_askers_own(self):
        way = [0, 0, 0, 0, 1, 1, 0, 0, 2, 3, 2, 2]
        told = seen_by(WIDE, way)
        kept = copy.deepcopy(told)
        told[1].clear()
        told[1][9, 9] = None
        self.assertEqual(seen_by(WIDE, way), kept)
        self.assertEqual(way, [0, 0, 0, 0, 1, 1, 0, 0, 2, 3, 2, 2])

    def test_drawn_ways_against_their_logs(self):
        for told in drawn_programs(31, 200):
            program = program_of(told)
            for waits in (True, False):
                for pick in (0, 1, 3, 5, -1):
                    way = drawn_way(program, waits, pick)
                    kept = list(way)
                    seen = seen_by(program, way, waits)
                    self.assertEqual(seen, seen_along(told, way, waits))
                    self.assertIsNone(need_seen(program, seen))
                    self.assertEqual(way, kept)


class MayBeSeen(unittest.TestCase):
    def test_what_no_way_has_seen_is_not_refused_for_that(self):
        for seen in (SEEN, OVER):
            self.assertIsNone(need_seen(WIDE, seen))
            for ask in (said, ring_of, way_of):
                for waits in (True, False):
                    ask(WIDE, seen, waits)

    def test_all_sources_that_may_be(self):
        for place, sources in (((0, 1), (None, (0, 0), (1, 0), (1, 1))), ((0, 4), (None, (0, 3))), ((1, 1), (None, (0, 0), (1, 0))),
                               ((1, 2), (None, (0, 3), (0, 4)))):
            for source in sources:
                self.assertIsNone(need_seen(WIDE, (DONE, {**SOURCES, place: source}, ORDERS)))

    def test_sources_in_any_order(self):
        self.assertIsNone(need_seen(WIDE, (DONE, dict(reversed(SOURCES.items())), ORDERS)))

    def test_all_that_may_be_seen_of_drawn_programs(self):
        many = 0
        for told in drawn_programs(33, 300):
            program = program_of(told)
            for seen in may_be_seen(told, 200) or ():
                self.assertIsNone(need_seen(program, seen))
                many += 1
        self.assertGreater(many, 1000)

    def test_what_another_machine_has_seen(self):
        for told in drawn_programs(34, 60, 1):
            for waits in (True, False):
                for node in last_nodes(told, waits, 300) or ():
                    self.assertIsNone(need_seen(program_of(told), node.seen()))


class Refused(unittest.TestCase):
    def need_bad(self, part, seen, program=WIDE):
        kept = copy.deepcopy(seen)
        asks = [need_seen] + [lambda *handed, ask=ask, waits=waits: ask(*handed, waits) for ask in (said, ring_of, way_of) for waits in (True, False)]
        for ask in asks:
            with self.assertRaises(BadSeen, msg=seen) as caught:
                ask(program, seen)
            self.assertEqual(caught.exception.part, part, seen)
            self.assertIs(type(caught.exception), BadSeen)
            self.assertIsInstance(caught.exception, FenceError)
        self.assertEqual(seen, kept)

    def test_what_is_no_tuple_of_three(self):
        for seen in ((), (DONE,), (DONE, SOURCES), SEEN + (0,), SEEN + (ORDERS,), list(SEEN), None, 0, "abc", {}, SOURCES, DONE):
            self.need_bad("done", seen)

    def test_done_that_is_no_such_tuple(self):
        for done in ((), (63,), (63, 7, 0), [63, 7], None, 63, {0: 63, 1: 7}, "ab", ((63,), (7,)), ("63", "7"), (63, None), (None, 7), (63, (7,))):
            self.need_bad("done", (done, SOURCES, ORDERS))

    def test_done_with_truths(self):
        one = read("cells x 0\nthread\nfence\nthread")
        self.assertIsNone(need_seen(one, ((1, 0), {}, ((),))))
        for done in ((True, 0), (1, False), (True, False)):
            self.need_bad("done", (done, {}, ((),)), one)

    def test_done_that_is_no_going_through(self):
        good = (39, 63)
        for number in list(range(-130, 130)) + [63 + 64, 39 + 64, 2 ** 70 + 63, -2 ** 70 + 63]:
            if number not in good:
                self.need_bad("done", ((number, 7), SOURCES, ORDERS))
        for number in list(range(-20, 20)) + [7 + 8, 7 + 2 ** 70]:
            if number != 7:
                self.need_bad("done", ((63, number), SOURCES, ORDERS))

    def test_done_with_skips(self):
        for rows, good in (("skip a 0", (1,)), ("skip a 0\nfence", (3,)), ("skip a 1\nfence", (1, 3)), ("skip a 2\nfence\nfence\nfence", (9, 15)),
                           ("skip a 1\nskip a 1\nfence\nfence", (1 + 4 + 8, 1 + 2 + 8, 15)), ("fence\nskip a 2\nskip a 1\nfence", (3, 7, 15)),
                           ("skip a 2\nskip a 2\nfence\nfence\nfence", (1 + 8 + 16, 3 + 16, 31)), ("", (0,))):
            program = read("cells x 0\nthread\n" + rows)
            for number in range(-3, 70):
                if number in good:
                    self.assertIsNone(need_seen(program, ((number,), {}, ((),))), (rows, number))
                else:
                    self.need_bad("done", ((number,), {}, ((),)), program)

    def test_done_with_a_skip_beyond_its_threads_end(self):
        program = program_of(((("x", 0),), ((("skip", "a", 5), FENCE, FENCE),)))
        for number in range(-3, 70):
            if number in (1, 7):
                self.assertIsNone(need_seen(program, ((number,), {}, ((),))))
            else:
                self.need_bad("done", ((number,), {}, ((),)), program)
        self.assertEqual(way_of(program, ((1,), {}, ((),))), [0])
        self.assertIsNone(way_of(program, ((7,), {}, ((),))))

    def test_sources_that_are_no_dict(self):
        for sources in (None, (), list(SOURCES), tuple(SOURCES.items()), list(SOURCES.items()), 4, "abcd"):
            self.need_bad("sources", (DONE, sources, ORDERS))
        none = read("cells x 0\nthread")
        for sources in (None, (), [], "", 0):
            self.need_bad("sources", ((0,), sources, ((),)), none)

    def test_sources_with_keys_missing(self):
        for place in SOURCES:
            left = {other: source for other, source in SOURCES.items() if other != place}
            self.need_bad("sources", (DONE, left, ORDERS))
            for other in ((0, 0), (0, 2), (0, 5), (1, 3), (2, 0), (-1, 1), (0, -2), place + (0,), (place,), None, "ab", 4, place[:1], (None, 4), ()):
                self.need_bad("sources", (DONE, {**left, other: SOURCES[place]}, ORDERS))
        self.need_bad("sources", (DONE, {}, ORDERS))

    def test_sources_with_keys_too_many(self):
        for other in ((0, 0), (0, 2), (0, 5), (1, 0), (1, 3), (2, 0), (0, 1, 0), None, "ab", 4):
            self.need_bad("sources", (DONE, {**SOURCES, other: None}, ORDERS))

    def test_sources_of_rows_that_were_gone_over(self):
        self.need_bad("sources", (OVER[0], {**OVER[1], (0, 4): None}, OVER[2]))
        self.need_bad("sources", (OVER[0], {**OVER[1], (1, 2): (0, 3)}, OVER[2]))
        self.need_bad("sources", (OVER[0], {**OVER[1], (1, 2): (0, 4)}, OVER[2]))

    def test_sources_that_are_no_other_done_put_or_swap_on_the_cell(self):
        for place, sources in (
                ((0, 1), ((0, 1), (0, 3), (0, 4), (1, 2), (0, 2), (0, 5))),
                ((0, 4), ((0, 4), (0, 0), (1, 0), (1, 2), (0, 1))),
                ((1, 1), ((1, 1), (0, 3), (0, 1), (1, 2))),
                ((1, 2), ((1, 2), (0, 0), (1, 0), (1, 1)))):
            for source in sources:
                self.need_bad("sources", (DONE, {**SOURCES, place: source}, ORDERS))

    def test_sources_that_are_no_places(self):
        for source in ((), (0,), (0, 0, 0), [0, 0], [0], 0, 1, "", "ab", {}, {0: 0}, ([0], [0]), ((0, 0),), (0, None), (None, 0), ("0", "0"), (7, 0),
                       (0, 7), (-2, 0), (0, -6), (2, 0), False, True):
            self.need_bad("sources", (DONE, {**SOURCES, (0, 1): source}, ORDERS))

    def test_sources_with_truths(self):
        for source in ((False, 0), (0, False), (True, 0), (1, True), (True, True)):
            self.need_bad("sources", (DONE, {**SOURCES, (0, 1): source}, ORDERS))
        for place in ((0, True), (False, 1), (False, True)):
            left = {other: source for other, source in SOURCES.items() if other != place}
            self.need_bad("sources", (DONE, {place: (0, 0), **left}, ORDERS))

    def test_orders_that_are_no_such_tuple(self):
        for orders in (None, (), ORDERS[:1], ORDERS + ((),), list(ORDERS), 2, "ab", {0: ORDERS[0], 1: ORDERS[1]}, (ORDERS[0], None), (None, ORDERS[1]),
                       (list(ORDERS[0]), ORDERS[1]), (ORDERS[0], list(ORDERS[1])), (ORDERS[1], ORDERS[0]), ORDERS[0], (4, 2), ("abc", "ab")):
            self.need_bad("orders", (DONE, SOURCES, orders))
        none = read("cells x 0\nthread")
        for orders in (((),) * 2, (), ([],), (None,), ("",), ({},), (0,), [()]):
            self.need_bad("orders", ((0,), {}, orders), none)

    def test_orders_that_are_not_of_just_these(self):
        a, b, c = ORDERS[0]
        d, e = ORDERS[1]
        for x, y in (((a, b), (d, e)), ((a, b, c), (d,)), ((a, b, b), (d, e)), ((a, b, c, c), (d, e)), ((a, b, c), (d, d)), ((a, b, d), (c, e)),
                     ((a, b, c, d), (e,)), ((a, b, c), (d, e, a)), ((a, b, c), ()), ((), (d, e)), ((a, b, (0, 1)), (d, e)), ((a, b, c), (d, (1, 2))),
                     ((a, b, (2, 0)), (d, e)), ((a, b, (-1, 1)), (d, e)), ((a, b, c), (d, (0, -2))), ((a, b, c), (d, e, (0, 5)))):
            self.need_bad("orders", (DONE, SOURCES, (x, y)))

    def test_orders_of_what_are_no_places(self):
        a, b, c = ORDERS[0]
        for part in (None, 0, (), (0,), (0, 0, 0), [0, 0], "ab", {}, (0, None), (None, None), ("a", 0), ([], []), (False, 0), (0, False), (False, False)):
            for order in ((part, b, c), (b, part, c), (b, c, part)):
                self.need_bad("orders", (DONE, SOURCES, (order, ORDERS[1])))

    def test_orders_of_rows_that_were_gone_over(self):
        for order in (((0, 3),), ((0, 4),), ((0, 3), (0, 4))):
            self.need_bad("orders", OVER[:2] + ((OVER[2][0], order),))

    def test_two_parts_wrong_at_once(self):
        for done in ([63, 7], (63,), (62, 7), None):
            for sources in (None, {}, {**SOURCES, (0, 1): (0, 1)}, SOURCES):
                for orders in (None, (), ORDERS[:1], ORDERS):
                    self.need_bad("done", (done, sources, orders))
        for sources in (None, {}, {**SOURCES, (0, 1): (0, 1)}):
            for orders in (None, (), ORDERS[:1], ((), ()), ORDERS):
                self.need_bad("sources", (DONE, sources, orders))

    def test_done_of_another_going_than_the_others_tell(self):
        self.need_bad("sources", (OVER[0], SOURCES, ORDERS))
        self.need_bad("orders", (OVER[0], OVER[1], ORDERS))
        self.need_bad("sources", (DONE, OVER[1], OVER[2]))
        self.need_bad("orders", (DONE, SOURCES, OVER[2]))


class NothingIsChanged(unittest.TestCase):
    def test_by_asking(self):
        for seen in (SEEN, OVER):
            kept = copy.deepcopy(seen)
            before = list(seen[1].items())
            for ask in (need_seen, said, ring_of, way_of):
                ask(WIDE, seen)
                self.assertEqual(seen, kept)
                self.assertEqual(list(seen[1].items()), before)

    def test_by_what_is_done_to_it_later(self):
        program = read("cells x 0\nthread\nput x 1\nthread\nget a x")
        sources = {(1, 0): None}
        handed = ((1, 1), sources, (((0, 0),),))
        told = said(program, handed)
        kept = list(told)
        way = way_of(program, handed)
        sources[1, 0] = (0, 0)
        self.assertEqual(told, kept)
        self.assertNotEqual(said(program, handed), kept)
        self.assertEqual(seen_by(program, way), ((1, 1), {(1, 0): None}, (((0, 0),),)))


if __name__ == "__main__":
    unittest.main()
