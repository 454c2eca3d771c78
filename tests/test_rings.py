"""Rings among moments; ways where there is none; and that both tell just what the machine does."""

import copy
import unittest

from fencerow.building import program_of
from fencerow.errors import TooMuch
from fencerow.gathering import outcomes, way_to
from fencerow.orders import said
from fencerow.reading import read
from fencerow.rings import ring_of, way_of
from fencerow.seen import need_seen, seen_by
from fencerow.states import is_over, outcome_of
from fencerow.steps import walked
from programs import drawn_programs
from second import goes_against_a_skip, key_of, last_nodes, may_be_seen

CROSSED = read("cells x 0 y 0\nthread\nput x 1\nget a y\nthread\nput y 1\nget b x")
FENCED = read("cells x 0 y 0\nthread\nput x 1\nfence\nget a y\nthread\nput y 1\nfence\nget b x")
ONE_FENCE = read("cells x 0 y 0\nthread\nput x 1\nfence\nget a y\nthread\nput y 1\nget b x")
SWAPPED = read("cells x 0 y 0\nthread\nswap c x 1\nget a y\nthread\nswap d y 1\nget b x")
ORDERS = (((0, 0),), ((1, 0),))


class Looking(unittest.TestCase):
    def need_ring(self, program, seen, *waits):
        """There is a ring, which keeps to what is said, and so no way."""
        ring = ring_of(program, seen, *waits)
        self.assertIs(type(ring), list)
        self.assertGreaterEqual(len(ring), 2)
        self.assertEqual(len(set(ring)), len(ring))
        ahead = {saying[1:] for saying in said(program, seen, *waits)}
        for pair in zip(ring, ring[1:] + ring[:1]):
            self.assertIn(pair, ahead)
        for moment in ring:
            self.assertIs(type(moment), tuple)
        self.assertIsNone(way_of(program, seen, *waits))
        return ring

    def need_way(self, program, seen, *waits):
        """There is no ring, and a way that has seen just this."""
        self.assertIsNone(ring_of(program, seen, *waits))
        way = way_of(program, seen, *waits)
        self.assertIs(type(way), list)
        state = walked(program, way, *waits)
        self.assertIs(is_over(program, state), True)
        self.assertEqual(seen_by(program, way, *waits), seen)
        return outcome_of(state)

    def need_neither(self, program, seen, *waits):
        self.assertIsNone(ring_of(program, seen, *waits))
        self.assertIsNone(way_of(program, seen, *waits))


class Known(Looking):
    def test_both_see_the_first_number(self):
        seen = ((3, 3), {(0, 1): None, (1, 1): None}, ORDERS)
        self.assertEqual(self.need_way(CROSSED, seen), ((1, 1), ((0,), (0,))))
        self.assertEqual(self.need_way(CROSSED, seen, True), ((1, 1), ((0,), (0,))))
        self.assertEqual(sorted(self.need_ring(CROSSED, seen, False)), [(0, 0, 0), (0, 1, 0), (1, 0, 0), (1, 1, 0)])

    def test_waits_by_its_name(self):
        seen = ((3, 3), {(0, 1): None, (1, 1): None}, ORDERS)
        self.assertIsNone(ring_of(CROSSED, seen, waits=True))
        self.assertIsNotNone(ring_of(CROSSED, seen, waits=False))
        self.assertIsNotNone(way_of(CROSSED, seen, waits=True))
        self.assertIsNone(way_of(CROSSED, seen, waits=False))

    def test_both_see_the_first_number_with_fences_between(self):
        seen = ((7, 7), {(0, 2): None, (1, 2): None}, ORDERS)
        for waits in (True, False):
            self.need_ring(FENCED, seen, waits)
        self.need_way(ONE_FENCE, ((7, 3), {(0, 2): None, (1, 1): None}, ORDERS))
        self.need_ring(ONE_FENCE, ((7, 3), {(0, 2): None, (1, 1): None}, ORDERS), False)

    def test_both_see_the_first_number_with_swaps(self):
        seen = ((3, 3), {(0, 0): None, (0, 1): None, (1, 0): None, (1, 1): None}, ORDERS)
        for waits in (True, False):
            self.need_ring(SWAPPED, seen, waits)

    def test_one_sees_the_other(self):
        for waits in (True, False):
            for sources in (((1, 0), (0, 0)), ((1, 0), None), (None, (0, 0))):
                self.need_way(CROSSED, ((3, 3), dict(zip(((0, 1), (1, 1)), sources)), ORDERS), waits)

    def test_a_message_and_a_flag(self):
        program = read("cells x 0 y 0\nthread\nput x 1\nput y 1\nthread\nget a y\nget b x")
        orders = (((0, 0),), ((0, 1),))
        for waits in (True, False):
            self.need_ring(program, ((3, 3), {(1, 0): (0, 1), (1, 1): None}, orders), waits)
            self.need_way(program, ((3, 3), {(1, 0): (0, 1), (1, 1): (0, 0)}, orders), waits)
            self.need_way(program, ((3, 3), {(1, 0): None, (1, 1): (0, 0)}, orders), waits)

    def test_two_moments(self):
        program = read("cells x 0\nthread\nget a x\nput x 1")
        self.assertEqual(sorted(self.need_ring(program, ((3,), {(0, 0): (0, 1)}, (((0, 1),),)), False)), [(0, 0, 0), (0, 1, 0)])
        self.need_ring(program, ((3,), {(0, 0): (0, 1)}, (((0, 1),),)))
        swaps = read("cells x 0\nthread\nswap a x 1\nthread\nswap b x 2")
        for waits in (True, False):
            ring = self.need_ring(swaps, ((1, 1), {(0, 0): (1, 0), (1, 0): (0, 0)}, (((0, 0), (1, 0)),)), waits)
            self.assertEqual(sorted(ring), [(0, 0, 0), (1, 0, 0)])

    def test_a_ring_beside_moments_behind_it(self):
        program = read("cells x 0\nthread\nfence\nget a x\nput x 1\nfence\nget b x")
        seen = ((31,), {(0, 1): (0, 2), (0, 4): (0, 2)}, (((0, 2),),))
        for waits in (True, False):
            ring = self.need_ring(program, seen, waits)
            self.assertNotIn((0, 0, 0), ring)
            self.assertNotIn((0, 4, 0), ring)

    def test_its_own_puts_out_of_order(self):
        program = read("cells x 0\nthread\nput x 1\nput x 2")
        for waits in (True, False):
            self.need_way(program, ((3,), {}, (((0, 0), (0, 1)),)), waits)
            self.need_ring(program, ((3,), {}, (((0, 1), (0, 0)),)), waits)

    def test_a_swap_gets_the_number_just_ahead_of_its_own(self):
        program = read("cells x 0\nthread\nput x 1\nthread\nswap a x 2")
        put, swap = (0, 0), (1, 0)
        for waits in (True, False):
            self.need_way(program, ((1, 1), {swap: None}, ((swap, put),)), waits)
            self.need_way(program, ((1, 1), {swap: put}, ((put, swap),)), waits)
            self.need_ring(program, ((1, 1), {swap: None}, ((put, swap),)), waits)
            self.need_ring(program, ((1, 1), {swap: put}, ((swap, put),)), waits)

    def test_without_rows(self):
        program = read("cells x 0\nthread\nthread")
        for waits in (True, False):
            self.assertEqual(way_of(program, ((0, 0), {}, ((),)), waits), [])
            self.need_way(program, ((0, 0), {}, ((),)), waits)

    def test_rows_of_which_nothing_is_said(self):
        program = read("cells x 0\nthread\nget a x\nthread\nadd b 1 1\nthread\nfence")
        for waits in (True, False):
            self.need_way(program, ((1, 1, 1), {(0, 0): None}, ((),)), waits)


class Skips(Looking):
    def test_by_the_first_number_of_its_box(self):
        program = read("cells x 0\nthread\nskip a 1\nput x 1\nfence")
        for waits in (True, False):
            self.need_way(program, ((5,), {}, ((),)), waits)
            self.need_neither(program, ((7,), {}, (((0, 1),),)), waits)

    def test_at_its_threads_end(self):
        for rows, good, bad in (("skip a 1\nfence", 1, 3), ("add a 1 0\nskip a 1\nfence", 7, 3)):
            for waits in (True, False):
                self.need_way(read("cells x 0\nthread\n" + rows), ((good,), {}, ((),)), waits)
                self.need_neither(read("cells x 0\nthread\n" + rows), ((bad,), {}, ((),)), waits)

    def test_that_go_over_nothing(self):
        for rows in ("skip a 0", "add a 1 0\nskip a 0", "skip a 0\nfence"):
            program = read("cells x 0\nthread\n" + rows)
            for waits in (True, False):
                self.need_way(program, ((2 ** (rows.count("\n") + 1) - 1,), {}, ((),)), waits)

    def test_by_the_number_of_a_source(self):
        program = read("cells x 0\nthread\nput x 1\nthread\nget a x\nskip a 1\nfence\nfence")
        for waits in (True, False):
            for source, good, bad in ((None, 11, 15), ((0, 0), 15, 11)):
                self.need_way(program, ((1, good), {(1, 0): source}, (((0, 0),),)), waits)
                self.need_neither(program, ((1, bad), {(1, 0): source}, (((0, 0),),)), waits)

    def test_through_adds_puts_and_swaps(self):
        program = read("cells x 3 y 0\nthread\nget a x\nadd a a 97\nput y a\nthread\nswap b y 1\nskip b 1\nfence")
        for waits in (True, False):
            for first, good, bad in (((0, 2), 3, 7), (None, 3, 7)):
                order = ((0, 2), (1, 0)) if first else ((1, 0), (0, 2))
                self.need_way(program, ((7, good), {(0, 0): None, (1, 0): first}, ((), order)), waits)
                self.need_neither(program, ((7, bad), {(0, 0): None, (1, 0): first}, ((), order)), waits)
        program = read("cells x 4 y 0\nthread\nget a x\nadd a a 97\nput y a\nthread\nswap b y 1\nskip b 1\nfence")
        for waits in (True, False):
            self.need_way(program, ((7, 7), {(0, 0): None, (1, 0): (0, 2)}, ((), ((0, 2), (1, 0)))), waits)
            self.need_neither(program, ((7, 3), {(0, 0): None, (1, 0): (0, 2)}, ((), ((0, 2), (1, 0)))), waits)

    def test_a_ring_goes_ahead_of_a_skip(self):
        program = read("cells x 0\nthread\nskip b 1\nfence\nget a x\nput x 1")
        seen = ((15,), {(0, 2): (0, 3)}, (((0, 3),),))
        for waits in (True, False):
            self.need_ring(program, seen, waits)


class Own(Looking):
    def test_what_was_told_is_the_askers_own(self):
        seen = ((3, 3), {(0, 1): None, (1, 1): None}, ORDERS)
        handed = copy.deepcopy(seen)
        ring = ring_of(CROSSED, handed, False)
        way = way_of(CROSSED, handed)
        kept = (list(ring), list(way))
        ring.clear()
        way.append(9)
        self.assertEqual((ring_of(CROSSED, handed, False), way_of(CROSSED, handed)), kept)
        self.assertEqual(handed, seen)


class AllThatMayBeSeen(Looking):
    """Of all that may be seen of small programs a way is told just where the machine has one."""

    def need_each(self, told, waits):
        may, nodes = may_be_seen(told, 600), last_nodes(told, waits, 3000)
        if may is None or nodes is None:
            return (0, 0, 0)
        program = program_of(told)
        by_machine = {key_of(node.seen()) for node in nodes}
        self.assertLessEqual(by_machine, {key_of(seen) for seen in may})
        ways = rings = skips = 0
        found = set()
        for seen in may:
            if key_of(seen) in by_machine:
                found.add(self.need_way(program, seen, waits))
                ways += 1
            elif ring_of(program, seen, waits) is not None:
                self.need_ring(program, seen, waits)
                rings += 1
            else:
                self.need_neither(program, seen, waits)
                self.assertTrue(goes_against_a_skip(told, seen))
                skips += 1
        self.assertEqual(sorted(found), outcomes(program, waits))
        return (ways, rings, skips)

    def test_drawn_programs(self):
        for waits in (True, False):
            counts = [self.need_each(told, waits) for told in drawn_programs(51, 450)]
            self.assertTrue(all(sum(count) > 200 for count in zip(*counts)), [sum(count) for count in zip(*counts)])


class TheWhole(Looking):
    def test_the_way_to_each_outcome_has_seen_what_has_no_ring(self):
        many = 0
        for told in drawn_programs(52, 100):
            program = program_of(told)
            for waits in (True, False):
                try:
                    found = outcomes(program, waits)
                except TooMuch:
                    continue
                for outcome in found[:8]:
                    seen = seen_by(program, way_to(program, outcome, waits), waits)
                    self.assertIsNone(need_seen(program, seen))
                    self.assertEqual(self.need_way(program, seen, waits), outcome)
                    many += 1
        self.assertGreater(many, 200)

    def test_plain_turns_see_nothing_that_waiting_does_not(self):
        for told in drawn_programs(53, 60):
            program = program_of(told)
            for node in last_nodes(told, False, 500) or ():
                self.need_way(program, node.seen(), False)
                self.need_way(program, node.seen(), True)


if __name__ == "__main__":
    unittest.main()
