"""[6]: what is waited for, what meets, and what adds up."""

import unittest
from itertools import combinations, permutations

from anylatency.errors import NoName, NoOrder
from anylatency.waits import (adding, adds_up, at_once, first_reader, gap_of, gaps, how_many_adding, is_most_adding,
                              is_parted, meeting, meets, most_adding, most_at_once, parted, wait_of)
from tests.small import (LETTERS, ROOMY, STRANGE, WIDE, adding_by_hand, all_orders, all_sets, chain, few_blocks,
                         gaps_by_hand, listed, loose, meeting_by_hand, some_blocks, waits_by_hand)

EMPTY = ((), ())
GREAT = 10 ** 40
# e is slow, but nobody waits for it; d is live.
BLOCK = ((("a", (), True), ("b", (), True), ("c", ("a", "b"), False), ("d", ("c",), True), ("e", (), True)), ("d",))
ORDER, TURNED = ("a", "b", "c", "d", "e"), ("b", "e", "a", "c", "d")
QUICK = ((("a", (), False), ("b", ("a",), False), ("c", (), True)), ("a", "b"))


def runs():
    """Small BLOCKs with all their ORDERs, and many more with some of theirs."""
    for block in few_blocks() + [WIDE, ROOMY, BLOCK]:
        for order in all_orders(block):
            yield block, order
    for block in some_blocks():
        orders = all_orders(block)
        for order in orders[::1 + len(orders) // 3]:
            yield block, order


def partitions(names):
    """All ways to put the names into parts, each way as a list of ascending tuples."""
    if not names:
        return [[]]
    found = []
    for parts in partitions(names[:-1]):
        found.append(parts + [names[-1:]])
        for at in range(len(parts)):
            found.append(parts[:at] + [parts[at] + names[-1:]] + parts[at + 1:])
    return found


class WaitsTest(unittest.TestCase):
    def test_waits_and_gaps(self):
        for block, order in runs():
            waits, told = waits_by_hand(block, order), gaps_by_hand(block, order)
            for name in order:
                readers = [order.index(one) for one, reads, _ in block[0] if name in reads]
                self.assertEqual(first_reader(block, order, name), min(readers, default=len(order)))
                self.assertEqual(wait_of(block, order, name), waits.get(name))
                self.assertEqual(gap_of(block, order, name), told.get(name))
            self.assertEqual(gaps(block, order), tuple(sorted(told.items())))

    def test_meeting(self):
        for block, order in runs():
            pairs = meeting_by_hand(block, order)
            self.assertEqual(meeting(block, order), tuple(pairs))
            for one, other in permutations(order, 2):
                self.assertIs(meets(block, order, one, other), tuple(sorted((one, other))) in pairs)

    def test_edges_of_waits(self):
        # One that ends where the other one begins does not meet it: c reads a, and is waited for itself.
        block = ((("a", (), True), ("b", (), True), ("c", ("a",), True), ("d", ("b", "c"), False)), ())
        self.assertEqual(meeting(block, ("a", "c", "b", "d")), (("b", "c"),))
        self.assertEqual(meeting(block, ("b", "a", "c", "d")), (("a", "b"), ("b", "c")))
        self.assertIs(meets(block, ("a", "c", "b", "d"), "a", "c"), False)
        self.assertIs(meets(block, ("a", "c", "b", "d"), "c", "a"), False)

    def test_live_ones(self):
        wanted = ((("a", (), True), ("b", (), True), ("c", ("b",), False)), ("a", "b"))
        order = ("a", "b", "c")
        self.assertEqual([first_reader(wanted, order, name) for name in order], [3, 2, 3])
        self.assertEqual([wait_of(wanted, order, name) for name in order], [(0, 3), (1, 2), None])
        self.assertEqual((gaps(wanted, order), meeting(wanted, order)), ((("a", 2), ("b", 0)), (("a", "b"),)))

    def test_nobody_awaited(self):
        for block, order in ((EMPTY, ()), (QUICK, ("a", "b", "c")), (QUICK, ("c", "a", "b"))):
            self.assertEqual((gaps(block, order), meeting(block, order)), ((), ()))
            self.assertEqual((adding(block, order), how_many_adding(block, order)), ([()], 1))
            self.assertEqual((most_adding(block, order), most_at_once(block, order)), ((), 0))
            self.assertEqual((parted(block, order), at_once(block, order, 0)), ((), ()))
            self.assertIs(is_most_adding(block, order, ()), True)
            self.assertIs(is_parted(block, order, ()), True)
            self.assertIs(is_parted(block, order, ((),)), False)
            self.assertIs(adds_up(block, order, ()), True)
        self.assertIs(adds_up(QUICK, ("a", "b", "c"), ("c",)), False)
        self.assertEqual((wait_of(QUICK, ("a", "b", "c"), "c"), gap_of(QUICK, ("a", "b", "c"), "a")), (None, None))
        self.assertEqual(first_reader(QUICK, ("a", "b", "c"), "c"), 3)

    def test_eight(self):
        order = tuple(LETTERS)
        self.assertEqual(gaps(chain(8, "h"), order), tuple((name, 0) for name in LETTERS))
        self.assertEqual(meeting(chain(8, "h"), order), ())
        self.assertEqual(how_many_adding(chain(8, "h"), order), 256)
        self.assertEqual(adding(chain(8, "h"), order), sorted(all_sets(LETTERS)))
        self.assertEqual((most_adding(chain(8, "h"), order), most_at_once(chain(8, "h"), order)), (order, 1))
        self.assertEqual(parted(chain(8, "h"), order), (order,))
        block = loose(8, LETTERS)
        self.assertEqual(gaps(block, order), tuple((name, 7 - at) for at, name in enumerate(LETTERS)))
        self.assertEqual(meeting(block, order), tuple(combinations(LETTERS, 2)))
        self.assertEqual(adding(block, order), [()] + [(name,) for name in LETTERS])
        self.assertEqual((len(most_adding(block, order)), most_at_once(block, order)), (1, 8))
        self.assertEqual(sorted(parted(block, order)), [(name,) for name in LETTERS])
        self.assertEqual(at_once(block, order, 4), tuple("abcde"))


class AddingTest(unittest.TestCase):
    def test_adding(self):
        for block, order in runs():
            told = adding_by_hand(block, order)
            self.assertEqual(adding(block, order), told)
            self.assertEqual(how_many_adding(block, order), len(told))
            for some in all_sets(order):
                self.assertIs(adds_up(block, order, some), some in told)

    def test_most_adding(self):
        for block, order in runs():
            told = adding_by_hand(block, order)
            most = max(len(some) for some in told)
            for some in all_sets(order):
                self.assertIs(is_most_adding(block, order, some), some in told and len(some) == most)
            self.assertIs(is_most_adding(block, order, most_adding(block, order)), True)

    def test_most_adding_of_strange_things(self):
        for thing in STRANGE:
            with self.subTest(thing=thing):
                self.assertIs(is_most_adding(BLOCK, ORDER, thing), False)
        self.assertIs(is_most_adding(BLOCK, ORDER, ("a", "d")), True)
        for thing in (["a", "d"], ("d", "a"), ("a", "b"), ("a", "b", "d"), ("a", "d", "e"), ("a", "d", "d"), ("c", "d"),
                      (), NoName("a"), (NoName("a"), "d")):
            self.assertIs(is_most_adding(BLOCK, ORDER, thing), False)

    def test_list_is_new(self):
        told = adding(BLOCK, ORDER)
        told.clear()
        self.assertEqual(len(adding(BLOCK, ORDER)), 6)


class AtOnceTest(unittest.TestCase):
    def test_at_once(self):
        for block, order in runs():
            waits = waits_by_hand(block, order)
            most = 0
            for place in range(-2, len(order) + 3):
                told = tuple(sorted(name for name in waits if place in range(*waits[name])))
                self.assertEqual(at_once(block, order, place), told)
                most = max(most, len(told))
            self.assertEqual(most_at_once(block, order), most)

    def test_far_places(self):
        for place in (-GREAT, -1, 5, 6, GREAT):
            self.assertEqual(at_once(BLOCK, ORDER, place), ())

    def test_those_that_meet_two_by_two_are_waited_for_at_one_place(self):
        for block, order in runs():
            pairs = meeting(block, order)
            at_places = [at_once(block, order, place) for place in range(len(order))]
            for some in all_sets(waits_by_hand(block, order)):
                if some and all(pair in pairs for pair in combinations(some, 2)):
                    self.assertTrue(any(set(some) <= set(told) for told in at_places))


class PartedTest(unittest.TestCase):
    def test_parted(self):
        for block, order in runs():
            told = adding_by_hand(block, order)
            every = partitions(tuple(sorted(waits_by_hand(block, order))))
            good = [parts for parts in every if all(part in told for part in parts)]
            fewest = min(len(parts) for parts in good)
            self.assertEqual(fewest, most_at_once(block, order))
            self.assertEqual(len(parted(block, order)), fewest)
            self.assertIn(sorted(parted(block, order)), [sorted(parts) for parts in good])
            for parts in every:
                fits = parts in good and len(parts) == fewest
                for turned in (parts, parts[::-1], parts[1:] + parts[:1]):
                    self.assertIs(is_parted(block, order, tuple(turned)), fits)

    def test_two_parts_though_names_and_ends_mislead(self):
        # Put into the first part that fits by name, or as they end, a, b, c and d would need three parts.
        rows = tuple((name, (), True) for name in "abcd")
        readers = (("u", ("a",), False), ("v", ("b",), False), ("w", ("c",), False))
        block, order = (rows + readers, ("d",)), ("a", "b", "u", "d", "v", "c", "w")
        self.assertEqual([wait_of(block, order, name) for name in "abcd"], [(0, 2), (1, 4), (5, 6), (3, 7)])
        self.assertEqual(sorted(parted(block, order)), [("a", "d"), ("b", "c")])
        self.assertIs(is_parted(block, order, (("b", "c"), ("a", "d"))), True)
        self.assertIs(is_parted(block, order, (("a", "c"), ("b",), ("d",))), False)

    def test_is_parted_of_wrong_parts(self):
        for block, order in runs():
            parts = parted(block, order)
            self.assertIs(is_parted(block, order, parts), True)
            self.assertIs(is_parted(block, order, parts + ((),)), False)
            self.assertIs(is_parted(block, order, list(parts)), False)
            if parts:
                self.assertIs(is_parted(block, order, parts[1:]), False)
                self.assertIs(is_parted(block, order, parts + parts[:1]), False)
                self.assertIs(is_parted(block, order, parts[1:] + ((),)), False)
                self.assertIs(is_parted(block, order, (list(parts[0]),) + parts[1:]), False)

    def test_is_parted_of_strange_things(self):
        for thing in STRANGE:
            with self.subTest(thing=thing):
                self.assertIs(is_parted(BLOCK, ORDER, thing), False)
        self.assertIs(is_parted(BLOCK, ORDER, (("b",), ("a", "d"))), True)
        for thing in ((("b",), ("d", "a")), (("b",), ("a", "d", "d")), (("b", "d"), ("a", "d")), (("b",), ("a",)),
                      (("b",), ("a", "d", "e")), (("a", "b"), ("d",)), (("b",), "ad"), ("b", ("a", "d")), (("b",), 1),
                      (("b",), None), (("b",), ("a", "d"), ()), [("b",), ("a", "d")], (["b"], ("a", "d")),
                      (("b",), ("a", 1)), (("b",), (("a",), "d")), listed((("b",), ("a", "d")))):
            with self.subTest(thing=thing):
                self.assertIs(is_parted(BLOCK, ORDER, thing), False)


class RefusedTest(unittest.TestCase):
    def test_no_order_comes_first(self):
        for order in (("c", "a", "b", "d", "e"), (), ("a", "b", "c", "d"), ("a", "b", "c", "d", "d"),
                      ("a", "b", "c", "d", "x"), ORDER + ("e",), list(ORDER[::-1])):
            for ask in (gaps, meeting, adding, how_many_adding, most_adding, most_at_once, parted):
                self.assertRaises(NoOrder, ask, BLOCK, order)
            for ask in (first_reader, wait_of, gap_of, is_most_adding, is_parted):
                for name in ("a", "x", ()):
                    self.assertRaises(NoOrder, ask, BLOCK, order, name)
            self.assertRaises(NoOrder, meets, BLOCK, order, "x", "a")
            self.assertRaises(NoOrder, adds_up, BLOCK, order, ("x",))
            self.assertRaises(NoOrder, at_once, BLOCK, order, 0)

    def test_no_name(self):
        cases = [(ask, (name,), name) for ask in (first_reader, wait_of, gap_of) for name in ("x", "abcdefgh")]
        cases += [(meets, ("x", "a"), "x"), (meets, ("a", "y"), "y"), (meets, ("y", "x"), "y"),
                  (meets, ("c", "x"), "x"), (adds_up, (("a", "b", "x"),), "x"), (adds_up, (("f", "x"),), "f"),
                  (adds_up, (["c", "g"],), "g")]
        for ask, handed, name in cases:
            with self.subTest(ask=ask.__name__, handed=handed):
                with self.assertRaises(NoName) as caught:
                    ask(BLOCK, ORDER, *handed)
                self.assertEqual(caught.exception.name, name)
        self.assertRaises(NoName, first_reader, EMPTY, (), "a")


if __name__ == "__main__":
    unittest.main()
