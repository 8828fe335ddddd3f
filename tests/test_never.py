"""[8]: two ORDERs compared FOR ALL LATENCIES."""

import unittest
from functools import lru_cache
from itertools import product

from anylatency.errors import NoName, NoOrder
from anylatency.issue import is_latencies
from anylatency.never import (alike, compare, gap_changes, is_latencies_later, later_by, later_by_within,
                              latencies_later, meet_changes, never_later, never_later_within, safe_top, slow_ones,
                              worst_set)
from tests.small import (LETTERS, MIXED, ROOMY, STRANGE, THREE, WIDE, adding_by_hand, all_latencies, all_orders,
                         all_sets, all_within, chain, end_by_hand, few_blocks, gaps_by_hand, listed, loose,
                         meeting_by_hand, slow_names)

EMPTY = ((), ())
GREAT = 10 ** 40
PLAIN, CLOSE, FAR = ("a", "u", "b", "v"), ("a", "b", "u", "v"), ("a", "b", "v", "u")
# By these ORDERs of ROOMY no GAP is less than by the other one, but a and b meet in the other one alone.
SPREAD, PACKED = ("a", "x", "u", "b", "y"), ("x", "y", "a", "b", "u")
SIXES = (("a", "u", "b", "v", "c", "w"), ("a", "b", "c", "u", "v", "w"), ("c", "a", "b", "v", "w", "u"),
         ("a", "b", "u", "c", "v", "w"), ("b", "v", "a", "c", "w", "u"), ("c", "b", "w", "v", "a", "u"))


class Table:
    """The ENDs of a BLOCK by some of its ORDERs and all LATENCIES from 1 to top."""

    def __init__(self, block, orders, top):
        self.block = block
        self.orders = orders
        self.latencies = all_latencies(block, top)
        self.ends = {order: [end_by_hand(block, order, told) for told in self.latencies] for order in orders}

    def pairs(self):
        """All pairs of ORDERs, each with by how much the one ends later than the other, for all LATENCIES."""
        for one, other in product(self.orders, repeat=2):
            yield one, other, [mine - yours for mine, yours in zip(self.ends[one], self.ends[other])]


@lru_cache
def tables(more=0):
    """With tops so great that all that can be later shows it: no GAP is above n - 1, and two that do not meet in one
    have no greater GAPs in it together than n - 2."""
    found = [Table(block, all_orders(block), len(block[0]) + 1 + more) for block in few_blocks() + [WIDE]]
    return found + [Table(ROOMY, all_orders(ROOMY)[::3] + [SPREAD, PACKED], 6 + more)]


@lru_cache
def wide_tables():
    return tables() + [Table(MIXED, all_orders(MIXED), 6), Table(THREE, SIXES, 7)]


class CompareTest(unittest.TestCase):
    def test_never_later_and_its_kin(self):
        for table in wide_tables():
            for one, other, mores in table.pairs():
                ours = max(mores) <= 0, min(mores) >= 0
                word = {(True, True): "alike", (True, False): "better", (False, True): "worse",
                        (False, False): "apart"}[ours]
                self.assertIs(never_later(table.block, one, other), ours[0])
                self.assertIs(alike(table.block, one, other), ours == (True, True))
                self.assertEqual(compare(table.block, one, other), word)

    def test_guarantee(self):
        for table in wide_tables():
            gaps = {order: gaps_by_hand(table.block, order) for order in table.orders}
            meets = {order: set(meeting_by_hand(table.block, order)) for order in table.orders}
            for one, other, mores in table.pairs():
                holds = all(gaps[one][name] >= gaps[other][name] for name in gaps[one]) and meets[one] >= meets[other]
                self.assertIs(holds, max(mores) <= 0)
                same = gaps[one] == gaps[other] and meets[one] == meets[other]
                self.assertIs(alike(table.block, one, other), same)

    def test_slow_ones(self):
        seen = set()
        for table in wide_tables():
            for one, other, mores in table.pairs():
                sets = {tuple(name for name, number in told if number > 1)
                        for told, more in zip(table.latencies, mores) if more > 0}
                least = min(sets, key=lambda some: (len(some), some), default=None)
                self.assertEqual(slow_ones(table.block, one, other), least)
                seen.add(0 if least is None else len(least))
        self.assertEqual(seen, {0, 1, 2})

    def test_changes(self):
        for table in wide_tables():
            for one, other, _ in table.pairs():
                ours, theirs = gaps_by_hand(table.block, one), gaps_by_hand(table.block, other)
                told = sorted((name, ours[name] - theirs[name]) for name in ours if ours[name] != theirs[name])
                self.assertEqual(gap_changes(table.block, one, other), tuple(told))
                here, there = set(meeting_by_hand(table.block, one)), set(meeting_by_hand(table.block, other))
                told = tuple(sorted(here - there)), tuple(sorted(there - here))
                self.assertEqual(meet_changes(table.block, one, other), told)

    def test_two_slow_ones(self):
        self.assertEqual(gap_changes(ROOMY, SPREAD, PACKED), ())
        self.assertEqual(meet_changes(ROOMY, SPREAD, PACKED), ((), (("a", "b"),)))
        self.assertEqual((slow_ones(ROOMY, SPREAD, PACKED), slow_ones(ROOMY, PACKED, SPREAD)), (("a", "b"), None))
        self.assertEqual((compare(ROOMY, SPREAD, PACKED), compare(ROOMY, PACKED, SPREAD)), ("worse", "better"))
        # c and d are the only two, though a and b stand ahead of them by name.
        block = ((("a", (), False), ("b", (), True), ("c", (), True), ("d", (), True), ("u", ("c",), False),
                  ("x", (), False)), ("d",))
        one, other = ("c", "a", "u", "b", "d", "x"), ("a", "b", "x", "c", "d", "u")
        self.assertEqual(slow_ones(block, one, other), ("c", "d"))


class LaterTest(unittest.TestCase):
    def test_later_by(self):
        for table in wide_tables():
            sums = {order: adding_by_hand(table.block, order) for order in table.orders}
            for one, other, mores in table.pairs():
                told = later_by(table.block, one, other)
                lost = set(meeting_by_hand(table.block, other)) - set(meeting_by_hand(table.block, one))
                self.assertEqual(told is None, bool(lost))
                if told is not None:
                    self.assertEqual(told, max(mores))
                    ours, theirs = gaps_by_hand(table.block, one), gaps_by_hand(table.block, other)
                    self.assertEqual(told, max(sum(theirs[name] - ours[name] for name in some) for some in sums[one]))

    def test_no_greatest_one_grows_on(self):
        for near, far in zip(tables(), tables(3)):
            for (one, other, mores), (_, _, later) in zip(near.pairs(), far.pairs()):
                told = later_by(near.block, one, other)
                if told is None:
                    self.assertGreater(max(later), max(mores))
                else:
                    self.assertEqual(max(later), told)

    def test_latencies_later(self):
        for table in wide_tables():
            for one, other, mores in table.pairs():
                most = later_by(table.block, one, other)
                for number in (-GREAT, -3, -1, 0, 1, 2, max(mores), max(mores) + 1, GREAT):
                    told = latencies_later(table.block, one, other, number)
                    self.assertEqual(told is None, most is not None and most < number)
                    if told is not None:
                        self.assertIs(is_latencies(table.block, told), True)
                        more = end_by_hand(table.block, one, told) - end_by_hand(table.block, other, told)
                        self.assertGreaterEqual(more, number)
                        self.assertIs(is_latencies_later(table.block, one, other, number, told), True)

    def test_latencies_later_against_greater_gaps(self):
        # The two that do not meet in one have greater GAPs in it, so they must take more.
        block = (ROOMY[0] + (("z", (), False),), ROOMY[1])
        one, other = ("a", "x", "u", "b", "y", "z"), ("x", "y", "z", "a", "b", "u")
        self.assertEqual((gap_changes(block, one, other), later_by(block, one, other)), ((("b", 1),), None))
        for number in (-GREAT, -1, 0, 1, 2, 3, 99, GREAT):
            told = latencies_later(block, one, other, number)
            self.assertIs(is_latencies(block, told), True)
            self.assertGreaterEqual(end_by_hand(block, one, told) - end_by_hand(block, other, told), number)

    def test_is_latencies_later(self):
        for table in tables():
            for one, other, mores in list(table.pairs())[::11]:
                for told, more in list(zip(table.latencies, mores))[::3]:
                    for number in (-GREAT, more - 1, more, more + 1, GREAT):
                        fits = is_latencies_later(table.block, one, other, number, told)
                        self.assertIs(fits, more >= number)

    def test_is_latencies_later_of_strange_things(self):
        a, b = ("a", 5), ("b", 1)
        self.assertIs(is_latencies_later(WIDE, CLOSE, FAR, 1, (a, b)), True)
        for thing in STRANGE + ([a, b], (list(a), b), (b, a), (a,), (a, b, b), (a, b, ("u", 1)), (a, ("b", 0)),
                                (a, ("b", -1)), (a, ("b", True)), (a, ("b", None)), (a, ("b", "1")), (a, ("b",)),
                                (a, ("b", 1, 1)), (("a", True), b), NoName("a"), (a, NoName("b"))):
            for number in (-GREAT, 0, 1):
                with self.subTest(thing=thing):
                    self.assertIs(is_latencies_later(WIDE, CLOSE, FAR, number, thing), False)
        self.assertIs(is_latencies_later(EMPTY, (), (), 0, ()), True)
        self.assertIs(is_latencies_later(EMPTY, (), (), 1, ()), False)
        self.assertIs(is_latencies_later(EMPTY, (), (), 0, []), False)


class WithinTest(unittest.TestCase):
    def go_through(self, block, pairs, numbers):
        """Compare what is told within all TOPS of these numbers with all LATENCIES within them."""
        slow = slow_names(block)
        sizes = set()
        for tops in [tuple(zip(slow, some)) for some in product(numbers, repeat=len(slow))]:
            for one, other in pairs:
                most = max(end_by_hand(block, one, told) - end_by_hand(block, other, told)
                           for told in all_within(tops))
                self.assertEqual(later_by_within(block, one, other, tops), most)
                self.assertIs(never_later_within(block, one, other, tops), most <= 0)
                worst = []
                for some in all_sets(slow):
                    told = tuple((name, top + 1 if name in some else 1) for name, top in tops)
                    if end_by_hand(block, one, told) - end_by_hand(block, other, told) == most:
                        worst.append(some)
                # The guarantee: there is such a set.
                self.assertEqual(worst_set(block, one, other, tops), worst[0])
                sizes.add(len(worst[0]))
        return sizes

    def test_small_blocks(self):
        for block in few_blocks(2):
            orders = all_orders(block)
            self.go_through(block, list(product(orders, repeat=2))[::1 + len(orders)], (0, 1, 3))

    def test_two(self):
        self.assertEqual(self.go_through(WIDE, list(product(all_orders(WIDE), repeat=2)), range(5)), {0, 1, 2})
        orders = [SPREAD, PACKED] + all_orders(ROOMY)[::9]
        self.assertEqual(self.go_through(ROOMY, list(product(orders, repeat=2)), (0, 1, 2, 4)), {0, 1, 2})

    def test_three(self):
        sizes = self.go_through(THREE, list(product(SIXES[:4], repeat=2)), (0, 1, 4))
        self.assertEqual(sizes, {0, 1, 2, 3})
        ones = (("a", 1), ("b", 1), ("c", 1))
        self.assertEqual(worst_set(THREE, SIXES[0], SIXES[1], ones), ("a", "b", "c"))
        self.assertEqual(later_by_within(THREE, SIXES[0], SIXES[1], ones), 3)

    def test_one_that_nobody_waits_for(self):
        self.go_through(MIXED, list(product(all_orders(MIXED)[::3], repeat=2)), (0, 2))

    def test_safe_top(self):
        for table in wide_tables():
            slow = slow_names(table.block)
            for one, other, mores in table.pairs():
                # The least top of those LATENCIES with which one ends later; it is safe to be below it.
                tops = [max((number - 1 for _, number in told), default=0)
                        for told, more in zip(table.latencies, mores) if more > 0]
                told = safe_top(table.block, one, other)
                self.assertEqual(told, min(tops) - 1 if tops else None)
                if told is not None:
                    for top in (told, told + 1):
                        within = never_later_within(table.block, one, other, tuple((name, top) for name in slow))
                        self.assertIs(within, top == told)


class EdgesTest(unittest.TestCase):
    def test_empty(self):
        self.assertIs(never_later(EMPTY, (), ()), True)
        self.assertIs(alike(EMPTY, (), ()), True)
        self.assertEqual((compare(EMPTY, (), ()), slow_ones(EMPTY, (), ())), ("alike", None))
        self.assertEqual((gap_changes(EMPTY, (), ()), meet_changes(EMPTY, (), ())), ((), ((), ())))
        self.assertEqual((later_by(EMPTY, (), ()), later_by_within(EMPTY, (), (), ())), (0, 0))
        self.assertEqual((latencies_later(EMPTY, (), (), 0), latencies_later(EMPTY, (), (), 1)), ((), None))
        self.assertIs(never_later_within(EMPTY, (), (), ()), True)
        self.assertEqual((worst_set(EMPTY, (), (), ()), safe_top(EMPTY, (), ())), ((), None))

    def test_nobody_awaited(self):
        block = loose(4)
        one, other, tops = ("a", "b", "c", "d"), ("d", "c", "b", "a"), tuple((name, GREAT) for name in "abcd")
        self.assertEqual((compare(block, one, other), slow_ones(block, one, other)), ("alike", None))
        self.assertEqual((later_by(block, one, other), safe_top(block, one, other)), (0, None))
        self.assertEqual((later_by_within(block, one, other, tops), worst_set(block, one, other, tops)), (0, ()))
        self.assertEqual(latencies_later(block, one, other, 1), None)
        self.assertIs(is_latencies(block, latencies_later(block, one, other, 0)), True)

    def test_live_ones(self):
        block = loose(2, "ab")
        one, other = ("a", "b"), ("b", "a")
        self.assertEqual((compare(block, one, other), gap_changes(block, one, other)), ("apart", (("a", 1), ("b", -1))))
        self.assertEqual((slow_ones(block, one, other), slow_ones(block, other, one)), (("b",), ("a",)))
        self.assertEqual((later_by(block, one, other), safe_top(block, one, other)), (1, 0))

    def test_great_tops(self):
        tops = (("a", GREAT), ("b", GREAT))
        self.assertEqual(later_by_within(WIDE, PLAIN, CLOSE, tops), GREAT + 1)
        self.assertEqual(later_by_within(WIDE, PLAIN, CLOSE, (("a", 3), ("b", GREAT))), 4)
        self.assertEqual(worst_set(WIDE, PLAIN, CLOSE, tops), ("a", "b"))
        self.assertEqual((later_by_within(WIDE, CLOSE, FAR, tops), worst_set(WIDE, CLOSE, FAR, tops)), (1, ("a",)))
        self.assertIs(never_later_within(WIDE, CLOSE, PLAIN, tops), True)
        self.assertEqual(worst_set(WIDE, PLAIN, CLOSE, (("a", 0), ("b", 0))), ())

    def test_eight(self):
        order, turned, tops = tuple(LETTERS), tuple(LETTERS[::-1]), tuple((name, GREAT) for name in LETTERS)
        block = loose(8, LETTERS)
        self.assertEqual((compare(block, order, turned), later_by(block, order, turned)), ("apart", 7))
        self.assertEqual((slow_ones(block, order, turned), safe_top(block, order, turned)), (("e",), 0))
        self.assertEqual(later_by_within(block, order, turned, tops), 7)
        self.assertEqual(worst_set(block, order, turned, tops), ("h",))
        self.assertEqual((compare(chain(8, "h"), order, order), safe_top(chain(8, "h"), order, order)), ("alike", None))
        self.assertEqual((later_by_within(chain(8, "h"), order, order, tops), later_by(chain(8), order, order)), (0, 0))


class RefusedTest(unittest.TestCase):
    def test_no_order_comes_first(self):
        tops = (("a", 1), ("b", 1))
        for wrong in (("u", "a", "b", "v"), (), CLOSE[:3], CLOSE + ("w",), ("a", "b", "u", "u"), ("a", "b", "u", "x"),
                      list(CLOSE[::-1])):
            for one, other in ((wrong, CLOSE), (CLOSE, wrong), (wrong, wrong)):
                for ask in (never_later, alike, compare, slow_ones, gap_changes, meet_changes, later_by, safe_top):
                    self.assertRaises(NoOrder, ask, WIDE, one, other)
                for ask in (never_later_within, later_by_within, worst_set):
                    self.assertRaises(NoOrder, ask, WIDE, one, other, tops)
                for number in (-1, 0, GREAT):
                    self.assertRaises(NoOrder, latencies_later, WIDE, one, other, number)
                    for thing in (tops, (), None, [tops]):
                        self.assertRaises(NoOrder, is_latencies_later, WIDE, one, other, number, thing)

    def test_lists(self):
        self.assertEqual(slow_ones(listed(ROOMY), listed(SPREAD), listed(PACKED)), ("a", "b"))
        self.assertEqual(later_by_within(listed(WIDE), listed(PLAIN), listed(CLOSE), [["a", 1], ["b", 1]]), 2)


if __name__ == "__main__":
    unittest.main()
