"""[10]: what can wait at once: greatest GAPs, ORDERs by which pairs meet, RINGs."""

import unittest
from itertools import combinations, permutations, product

from anylatency.apart import (always_meeting, can_all_meet, can_meet, can_part, great_meetings, greatest_gap,
                              how_many_meeting, is_order_meeting, is_order_with_gap, is_ring, meetable,
                              order_meeting, order_with_gap, ring_of)
from anylatency.blocks import is_order
from anylatency.errors import NoName
from tests.small import (LETTERS, MIXED, ROOMY, STRANGE, THREE, WIDE, all_orders, all_sets, chain, few_blocks,
                         gaps_by_hand, listed, loose, meeting_by_hand, some_blocks, waits_by_hand)

EMPTY = ((), ())
GREAT = 10 ** 40
CROSS = ((("a", (), True), ("b", (), True), ("p", ("r",), True), ("q", ("s",), True), ("r", ("a",), False),
          ("s", ("b",), False)), ("p", "q"))
# Slow ones, of which some read two others, and one is read by nobody and not live.
KNOT = ((("a", (), True), ("b", (), True), ("c", ("a", "b"), True), ("d", ("a",), True), ("e", (), True)), ("c", "d"))


def blocks():
    return few_blocks() + [WIDE, ROOMY, MIXED, KNOT, CROSS] + some_blocks()[70::9]


class Table:
    """All ORDERs of a BLOCK with their GAPs and with the pairs that meet."""

    def __init__(self, block):
        self.block = block
        self.orders = all_orders(block)
        self.gaps = {order: gaps_by_hand(block, order) for order in self.orders}
        self.meets = {order: set(meeting_by_hand(block, order)) for order in self.orders}
        self.awaited = sorted(waits_by_hand(block, self.orders[0]))
        self.names = [name for name, _, _ in block[0]]
        self.pairs = list(combinations(self.awaited, 2))


def is_to_be_ahead(block, pairs, one, other):
    """Told just as the document does."""
    reads = {name: reads for name, reads, _ in block[0]}[other]
    if one in reads:
        return True
    return any(one in pair and pair[1 - pair.index(one)] in reads for pair in pairs)


def is_ring_by_hand(block, pairs, thing):
    """Whether each stands ahead of the next one, and the last one ahead of the first one."""
    turned = thing[1:] + thing[:1]
    return all(is_to_be_ahead(block, pairs, one, other) for one, other in zip(thing, turned))


def some_pairs(table, most):
    """All sets of up to most pairs, and each turned round and with one pair doubled."""
    for some in all_sets(table.pairs):
        if len(some) <= most:
            yield some
            turned = tuple(pair[::-1] if at % 2 == 0 else pair for at, pair in enumerate(some[::-1]))
            yield turned + some[:1]


class GapsTest(unittest.TestCase):
    def test_greatest_gap(self):
        for block in blocks():
            table = Table(block)
            for name in table.names:
                told = greatest_gap(block, name)
                if name not in table.awaited:
                    self.assertIsNone(told)
                else:
                    self.assertEqual(told, max(table.gaps[order][name] for order in table.orders))

    def test_each_gap_is_that_by_some_order(self):
        for block in blocks():
            table = Table(block)
            for name in table.names:
                for gap in range(-2, len(table.names) + 2):
                    good = [order for order in table.orders if table.gaps[order].get(name) == gap]
                    told = order_with_gap(block, name, gap)
                    self.assertEqual(told is None, not good)
                    if told is not None:
                        self.assertIn(told, good)
                    for order in table.orders:
                        self.assertIs(is_order_with_gap(block, name, gap, order), order in good)
                if name in table.awaited:
                    seen = sorted({table.gaps[order][name] for order in table.orders})
                    self.assertEqual(seen, list(range(greatest_gap(block, name) + 1)))

    def test_far_gaps(self):
        for gap in (-GREAT, -1, 3, GREAT):
            self.assertIsNone(order_with_gap(WIDE, "a", gap))
            self.assertIs(is_order_with_gap(WIDE, "a", gap, ("a", "b", "v", "u")), False)

    def test_is_order_with_gap_of_strange_things(self):
        for thing in STRANGE + (["a", "b", "u", "v"], ("a", "b", "u"), ("u", "a", "b", "v"), ("a", "b", "u", "v", "v")):
            for gap in (0, 1):
                self.assertIs(is_order_with_gap(WIDE, "a", gap, thing), False)
        self.assertIs(is_order_with_gap(WIDE, "a", 1, ("a", "b", "u", "v")), True)
        self.assertIs(is_order_with_gap(WIDE, "u", 0, ("a", "b", "u", "v")), False)

    def test_eight(self):
        for many in (7, 8):
            for at, name in enumerate(LETTERS[:many]):
                self.assertEqual(greatest_gap(loose(many, LETTERS[:many]), name), many - 1)
                self.assertEqual(greatest_gap(chain(many, LETTERS[many - 1]), name), 0)
                told = order_with_gap(loose(many, LETTERS[:many]), name, at)
                self.assertEqual(told.index(name), many - 1 - at)

    def test_no_name(self):
        for block in (EMPTY, WIDE):
            for ask, given in ((greatest_gap, ("x",)), (order_with_gap, ("x", 0)), (is_order_with_gap, ("x", 0, 7))):
                with self.assertRaises(NoName) as caught:
                    ask(block, *given)
                self.assertEqual(caught.exception.name, "x")


class PairsTest(unittest.TestCase):
    def test_can_meet_and_can_part(self):
        for block in blocks():
            table = Table(block)
            some, every = [], []
            for one, other in product(table.names, repeat=2):
                pair = tuple(sorted((one, other)))
                known = pair in table.pairs
                met = [pair in table.meets[order] for order in table.orders]
                self.assertIs(can_meet(block, one, other), known and any(met))
                self.assertIs(can_part(block, one, other), known and not all(met))
                if one < other and known and any(met):
                    some.append(pair)
                if one < other and known and all(met):
                    every.append(pair)
            self.assertEqual(meetable(block), tuple(some))
            self.assertEqual(always_meeting(block), tuple(every))

    def test_guarantees(self):
        for block in blocks():
            table = Table(block)
            needs = {name: set() for name in table.names}
            for name in all_orders(block)[0]:
                for one in {name: reads for name, reads, _ in block[0]}[name]:
                    needs[name] |= {one} | needs[one]
            for one, other in table.pairs:
                self.assertIs((one, other) in meetable(block), one not in needs[other] and other not in needs[one])
                always = all(other in needs[name] for name, reads, _ in block[0] if one in reads) and all(
                    one in needs[name] for name, reads, _ in block[0] if other in reads)
                self.assertIs((one, other) in always_meeting(block), always)

    def test_nobody_awaited(self):
        quick = ((("a", (), False), ("b", ("a",), False), ("c", (), True)), ("a", "b"))
        for block in (EMPTY, quick):
            self.assertEqual((meetable(block), always_meeting(block), great_meetings(block)), ((), (), [()]))
        for one, other in permutations("abc", 2):
            self.assertIs(can_meet(quick, one, other), False)
            self.assertIs(can_part(quick, one, other), False)

    def test_eight(self):
        block = loose(8, LETTERS)
        every = tuple(combinations(LETTERS, 2))
        self.assertEqual((meetable(block), always_meeting(block)), (every, every))
        self.assertEqual(how_many_meeting(block, every), 40320)
        self.assertEqual((meetable(chain(8, "h")), always_meeting(chain(8, "h"))), ((), ()))
        self.assertIs(can_part(chain(8, "h"), "a", "h"), True)

    def test_no_name(self):
        for ask in (can_meet, can_part):
            for one, other, name in (("x", "a", "x"), ("a", "y", "y"), ("y", "x", "y"), ("x", "x", "x")):
                with self.assertRaises(NoName) as caught:
                    ask(WIDE, one, other)
                self.assertEqual(caught.exception.name, name)
            self.assertRaises(NoName, ask, EMPTY, "a", "a")


class AllMeetTest(unittest.TestCase):
    def test_all_of_pairs(self):
        for block in blocks():
            table = Table(block)
            for pairs in some_pairs(table, 6 if len(table.pairs) < 5 else 2):
                wanted = {tuple(sorted(pair)) for pair in pairs}
                good = [order for order in table.orders if wanted <= table.meets[order]]
                self.assertIs(can_all_meet(block, pairs), bool(good))
                self.assertEqual(how_many_meeting(block, pairs), len(good))
                told = order_meeting(block, pairs)
                self.assertEqual(told is None, not good)
                if good:
                    self.assertIn(told, good)
                    self.assertIs(is_order_meeting(block, pairs, told), True)
                for order in table.orders[::1 + len(table.orders) // 9]:
                    self.assertIs(is_order_meeting(block, pairs, order), order in good)
                ring = ring_of(block, pairs)
                self.assertEqual(ring is None, bool(good))
                if ring is not None:
                    self.assertTrue(ring and len(set(ring)) == len(ring) and isinstance(ring, tuple))
                    self.assertTrue(is_ring_by_hand(block, pairs, ring))
                    self.assertIs(is_ring(block, pairs, ring), True)

    def test_is_ring(self):
        seen = set()
        for block in few_blocks()[::4] + [WIDE, CROSS, KNOT, chain(4, "d")]:
            table = Table(block)
            pairs = [()] + [(pair,) for pair in table.pairs] + list(combinations(table.pairs, 2))
            names = [name for name, _, _ in block[0]]
            for some in pairs[:22]:
                for many in range(1, min(4, len(names)) + 1):
                    for thing in permutations(names, many):
                        told = is_ring_by_hand(block, some, thing)
                        self.assertIs(is_ring(block, some, thing), told)
                        self.assertIs(is_ring(block, some, list(thing)), False)
                        if told:
                            seen.add(len(thing))
                self.assertIs(is_ring(block, some, ()), False)
        self.assertEqual(seen, {1, 2, 3, 4})

    def test_ring_of_one(self):
        # b reads a and c reads b: if a and b are to meet, b would have to be ahead of b, and a ahead of c is no matter.
        block = chain(3, "c")
        self.assertIs(is_ring(block, (("a", "b"),), ("b",)), True)
        self.assertIs(is_ring(block, (("b", "a"),), ("b",)), True)
        self.assertIs(is_ring(block, (("a", "b"),), ("a",)), False)
        self.assertIs(is_ring(block, (("b", "c"),), ("b",)), False)
        self.assertEqual(ring_of(block, (("a", "b"),)), ("b",))
        self.assertIs(is_ring(block, (("a", "b"),), ("b", "b")), False)

    def test_strange_things(self):
        pairs = (("a", "q"), ("b", "p"))
        for thing in STRANGE + (("p", "s", "q", ["r"]), ("p", "s", "q", "x"), ("p", "s", "q", "r", "p"), [("p",)],
                                ("p", "s", "q"), ("p", "q", "s", "r"), (NoName("p"),), ("p", "s", "q", "r", ())):
            with self.subTest(thing=thing):
                self.assertIs(is_ring(CROSS, pairs, thing), False)
                self.assertIs(is_order_meeting(CROSS, (), thing), False)
        for turn in range(4):
            ring = ("p", "s", "q", "r")
            self.assertIs(is_ring(CROSS, pairs, ring[turn:] + ring[:turn]), True)
        order = ("b", "a", "s", "q", "r", "p")
        self.assertIs(is_order_meeting(CROSS, (("q", "a"), ["a", "b"]), order), True)
        self.assertIs(is_order_meeting(CROSS, (("q", "a"),), list(order)), False)
        self.assertIs(is_order_meeting(CROSS, (("q", "a"),), order[:-1]), False)

    def test_no_pairs(self):
        for block in blocks()[::3]:
            orders = all_orders(block)
            self.assertIs(can_all_meet(block, ()), True)
            self.assertIs(is_order(block, order_meeting(block, ())), True)
            self.assertEqual(how_many_meeting(block, ()), len(orders))
            self.assertIsNone(ring_of(block, ()))
        self.assertEqual((order_meeting(EMPTY, ()), how_many_meeting(EMPTY, ())), ((), 1))
        self.assertIs(is_order_meeting(EMPTY, (), ()), True)

    def test_pairs_and_their_orders_just_so(self):
        # All of pairs meet by just the ORDERs in which each stands ahead of all that it is to be ahead of.
        for block in few_blocks()[::3] + [CROSS, THREE]:
            table = Table(block)
            for pairs in list(some_pairs(table, 2))[:20]:
                ahead = [two for two in product(table.names, repeat=2) if is_to_be_ahead(block, pairs, *two)]
                for order in table.orders[::1 + len(table.orders) // 30]:
                    fits = all(order.index(one) < order.index(other) for one, other in ahead)
                    self.assertIs(is_order_meeting(block, pairs, order), fits)

    def test_great_meetings(self):
        for block in blocks() + [THREE, chain(4, "d"), loose(5, "abcde")]:
            table = Table(block)
            every = sorted({tuple(sorted(table.meets[order])) for order in table.orders})
            if len(table.pairs) < 7:
                kept = [some for some in all_sets(table.pairs)
                        if any(set(some) <= table.meets[order] for order in table.orders)]
                every = sorted(some for some in kept if not any(set(some) < set(more) for more in kept))
            else:
                every = [some for some in every if not any(set(some) < set(more) for more in every)]
            self.assertEqual(great_meetings(block), every)

    def test_lists(self):
        pairs = (("a", "q"), ("b", "p"))
        for given in (listed(pairs), [("a", "q"), ["b", "p"]]):
            self.assertIs(can_all_meet(listed(CROSS), given), False)
            self.assertEqual(ring_of(listed(CROSS), given), ring_of(CROSS, pairs))
            self.assertEqual(order_meeting(listed(CROSS), given[:1]), order_meeting(CROSS, pairs[:1]))
        told = great_meetings(CROSS)
        told.clear()
        self.assertEqual(len(great_meetings(CROSS)), 2)


if __name__ == "__main__":
    unittest.main()
