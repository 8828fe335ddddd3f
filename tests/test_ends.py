"""[7]: what makes the END, and what latencies are worth."""

import unittest

from anylatency.ends import (end_from, end_range, fewest_quick, is_maker, latencies_reaching, maker, makers, which_hold,
                             which_matter, worth)
from anylatency.errors import NoName, NoOrder
from anylatency.issue import is_latencies
from tests.small import (LETTERS, MIXED, ROOMY, STRANGE, THREE, WIDE, Machine, adding_by_hand, all_latencies,
                         all_orders, all_sets, chain, end_by_hand, few_blocks, gaps_by_hand, listed, loose, slow_names,
                         some_blocks, some_latencies, waits_by_hand)

EMPTY = ((), ())
GREAT = 10 ** 40
ORDER = ("a", "b", "c", "d", "e")
LASTS = (("a", 4), ("b", 6), ("d", 3), ("e", 9))
EVEN = (("a", 6), ("b", 5), ("d", 1), ("e", 9))
QUICK = ((("a", (), False), ("b", ("a",), False), ("c", (), True)), ("a", "b"))


def runs():
    """Small BLOCKs with all their ORDERs and all small LATENCIES, and many more with some of theirs."""
    for block in few_blocks(3) + [WIDE, MIXED]:
        for order in all_orders(block):
            for latencies in all_latencies(block, 3 if len(block[0]) < 5 else 2):
                yield block, order, latencies
    for block in few_blocks() + [ROOMY]:
        orders = all_orders(block)
        for order in orders[::1 + len(orders) // 3]:
            for latencies in all_latencies(block, 3)[::2]:
                yield block, order, latencies
    for turn, block in enumerate(some_blocks() + [MIXED, THREE]):
        orders = all_orders(block)
        for at, order in enumerate(orders[::1 + len(orders) // 2]):
            yield block, order, some_latencies(block, turn + at)


def sums_by_hand(block, order, latencies):
    """A dict with the sum of each set that adds up."""
    lasts, apart = dict(latencies), gaps_by_hand(block, order)
    return {some: len(order) + sum(lasts[name] - 1 - apart[name] for name in some)
            for some in adding_by_hand(block, order)}


def changed(latencies, name, more):
    return tuple((one, number + more if one == name else number) for one, number in latencies)


def quickened(latencies, some):
    return tuple((name, 1 if name in some else number) for name, number in latencies)


class SumsTest(unittest.TestCase):
    def test_hand_and_machine_tell_the_same(self):
        for turn, block in enumerate(some_blocks()[::5]):
            for order in all_orders(block)[:3]:
                told = some_latencies(block, turn)
                self.assertEqual(end_by_hand(block, order, told), Machine(block, order, told).end)

    def test_end_from(self):
        for block, order, latencies in runs():
            sums = sums_by_hand(block, order, latencies)
            for some in all_sets(order):
                self.assertEqual(end_from(block, order, latencies, some), sums.get(some))

    def test_makers(self):
        for block, order, latencies in runs():
            sums, end = sums_by_hand(block, order, latencies), end_by_hand(block, order, latencies)
            # The guarantee: the END is the greatest sum of a set that adds up.
            self.assertEqual(max(sums.values()), end)
            told = [some for some in sorted(sums) if sums[some] == end]
            self.assertEqual(makers(block, order, latencies), told)
            self.assertIn(maker(block, order, latencies), told)
            for some in all_sets(order):
                self.assertIs(is_maker(block, order, latencies, some), some in told)

    def test_which_matter_and_hold(self):
        for block, order, latencies in runs():
            end = end_by_hand(block, order, latencies)
            told = makers(block, order, latencies)
            slow = slow_names(block)
            matter = tuple(name for name in slow if any(name in some for some in told))
            hold = tuple(name for name in slow if all(name in some for some in told))
            self.assertEqual(which_matter(block, order, latencies), matter)
            self.assertEqual(which_hold(block, order, latencies), hold)
            for name in slow:
                later = end_by_hand(block, order, changed(latencies, name, 1))
                self.assertEqual(name in matter, later > end)
                if dict(latencies)[name] > 1:
                    sooner = end_by_hand(block, order, changed(latencies, name, -1))
                    self.assertEqual(name in hold, sooner < end)

    def test_list_is_new(self):
        told = makers(MIXED, ORDER, EVEN)
        told.clear()
        self.assertEqual(makers(MIXED, ORDER, EVEN), [("a",), ("b",)])

    def test_is_maker_of_strange_things(self):
        self.assertIs(is_maker(MIXED, ORDER, LASTS, ("b", "d")), True)
        for thing in STRANGE + (["b", "d"], ("d", "b"), ("b", "b", "d"), ("b", "d", "e"), ("a", "b", "d"), ("c",), (),
                                ("b", "d", "z"), NoName("b"), ("b", NoName("d"))):
            with self.subTest(thing=thing):
                self.assertIs(is_maker(MIXED, ORDER, LASTS, thing), False)

    def test_empty_maker(self):
        ones = (("a", 1), ("b", 1))
        self.assertEqual(makers(WIDE, ("a", "b", "u", "v"), ones), [()])
        self.assertEqual(makers(WIDE, ("a", "u", "b", "v"), ones), [(), ("a",), ("a", "b"), ("b",)])
        self.assertIs(is_maker(WIDE, ("a", "b", "u", "v"), ones, ()), True)
        self.assertEqual(which_hold(WIDE, ("a", "u", "b", "v"), ones), ())


class LatenciesTest(unittest.TestCase):
    def test_end_range(self):
        for block in few_blocks(2) + [WIDE]:
            for order in all_orders(block)[::5]:
                every = [(end_by_hand(block, order, told), told) for told in all_latencies(block, 3)]
                for _, low in every[::5]:
                    for _, high in every[::3]:
                        if all(one[1] <= other[1] for one, other in zip(low, high)):
                            between = [end for end, told in every if
                                       all(one[1] <= mid[1] <= other[1] for one, mid, other in zip(low, told, high))]
                            self.assertEqual(end_range(block, order, low, high), (min(between), max(between)))

    def test_worth(self):
        for block, order, latencies in runs():
            end = end_by_hand(block, order, latencies)
            for name in order:
                sooner = end_by_hand(block, order, quickened(latencies, (name,)))
                self.assertEqual(worth(block, order, latencies, name), end - sooner)

    def test_fewest_quick(self):
        for block, order, latencies in runs():
            ends = [(end_by_hand(block, order, quickened(latencies, some)), some)
                    for some in all_sets(slow_names(block))]
            for end in range(len(order) - 1, ends[0][0] + 2):
                fitting = [some for least, some in ends if least <= end]
                self.assertEqual(fewest_quick(block, order, latencies, end), fitting[0] if fitting else None)

    def test_fewest_quick_is_the_least_of_those_with_the_fewest(self):
        order, told = ("a", "u", "b", "v"), (("a", 3), ("b", 3))
        self.assertEqual([fewest_quick(WIDE, order, told, end) for end in (GREAT, 8, 7, 6, 5, 4, 3, -GREAT)],
                         [(), (), ("a",), ("a",), ("a", "b"), ("a", "b"), None, None])
        self.assertEqual(fewest_quick(WIDE, order, (("a", 2), ("b", 3)), 5), ("b",))
        # One less is enough, but not the one of the least NAME.
        self.assertEqual(fewest_quick(THREE, ("a", "b", "c", "u", "v", "w"), (("a", 2), ("b", 3), ("c", 9)), 6), ("c",))

    def test_latencies_reaching(self):
        for block in few_blocks() + [WIDE, MIXED, ROOMY, THREE]:
            for order in all_orders(block)[::7]:
                many = len(order)
                for end in (-GREAT, -1, many - 1, many, many + 1, many + 2, many + 7, GREAT):
                    told = latencies_reaching(block, order, end)
                    if end < many or end > many and not waits_by_hand(block, order):
                        self.assertIsNone(told)
                    else:
                        self.assertIs(is_latencies(block, told), True)
                        self.assertEqual(end_by_hand(block, order, told), end)

    def test_all_ends_that_small_latencies_have_are_reached(self):
        for block in few_blocks():
            for order in all_orders(block)[::7]:
                ends = {end_by_hand(block, order, told) for told in all_latencies(block, 5)}
                for end in range(-1, 6):
                    if latencies_reaching(block, order, end) is None:
                        self.assertNotIn(end, ends)


class EdgesTest(unittest.TestCase):
    def test_empty(self):
        self.assertEqual((end_from(EMPTY, (), (), ()), makers(EMPTY, (), ()), maker(EMPTY, (), ())), (0, [()], ()))
        self.assertEqual((which_matter(EMPTY, (), ()), which_hold(EMPTY, (), ())), ((), ()))
        self.assertEqual((is_maker(EMPTY, (), (), ()), is_maker(EMPTY, (), (), [])), (True, False))
        self.assertEqual(end_range(EMPTY, (), (), ()), (0, 0))
        self.assertEqual([fewest_quick(EMPTY, (), (), end) for end in (-1, 0, 1)], [None, (), ()])
        self.assertEqual([latencies_reaching(EMPTY, (), end) for end in (-1, 0, 1)], [None, (), None])

    def test_nobody_awaited(self):
        order, told = ("a", "b", "c"), (("c", GREAT),)
        self.assertEqual((makers(QUICK, order, told), which_matter(QUICK, order, told)), ([()], ()))
        self.assertEqual((end_from(QUICK, order, told, ()), end_from(QUICK, order, told, ("c",))), (3, None))
        self.assertEqual([worth(QUICK, order, told, name) for name in "abc"], [0, 0, 0])
        self.assertEqual([fewest_quick(QUICK, order, told, end) for end in (2, 3, 4)], [None, (), ()])
        self.assertEqual([latencies_reaching(QUICK, order, end) for end in (2, 3, 4)], [None, (("c", 1),), None])
        self.assertEqual(end_range(QUICK, order, (("c", 1),), told), (3, 3))

    def test_live_one(self):
        block = ((("a", (), True), ("b", (), False)), ("a",))
        self.assertEqual(makers(block, ("a", "b"), (("a", 2),)), [(), ("a",)])
        self.assertEqual(makers(block, ("a", "b"), (("a", 3),)), [("a",)])
        told = (("a", 7),)
        self.assertEqual((worth(block, ("a", "b"), told, "a"), worth(block, ("b", "a"), told, "a")), (5, 6))
        self.assertEqual(latencies_reaching(block, ("a", "b"), 9), (("a", 9),))

    def test_great_latencies(self):
        order, told = ("a", "u", "b", "v"), (("a", GREAT), ("b", GREAT))
        self.assertEqual(makers(WIDE, order, told), [("a", "b")])
        self.assertEqual([end_from(WIDE, order, told, some) for some in ((), ("b",), ("a", "b"))],
                         [4, GREAT + 3, 2 * GREAT + 2])
        self.assertEqual((worth(WIDE, order, told, "a"), worth(WIDE, order, told, "u")), (GREAT - 1, 0))
        self.assertEqual(end_range(WIDE, order, (("a", 1), ("b", GREAT)), told), (GREAT + 3, 2 * GREAT + 2))
        self.assertEqual(fewest_quick(WIDE, order, told, GREAT + 3), ("a",))
        self.assertEqual(fewest_quick(WIDE, order, told, GREAT + 2), ("a", "b"))
        close = ("a", "b", "u", "v")
        self.assertEqual(makers(WIDE, close, told), [("a",), ("b",)])
        self.assertEqual((which_matter(WIDE, close, told), which_hold(WIDE, close, told)), (("a", "b"), ()))

    def test_eight(self):
        order, told = tuple(LETTERS), tuple((name, 1 + at) for at, name in enumerate(LETTERS))
        self.assertEqual(len(makers(chain(8, "h"), order, tuple((name, 1) for name in LETTERS))), 256)
        self.assertEqual(makers(chain(8, "h"), order, told), [order, order[1:]])
        self.assertEqual(fewest_quick(chain(8, "h"), order, told, 8), order[1:])
        self.assertEqual(fewest_quick(chain(8, "h"), order, told, 30), ("g",))
        self.assertEqual(makers(loose(8, LETTERS), order, told), [("h",)])
        self.assertEqual(which_hold(loose(8, LETTERS), order, told), ("h",))


class RefusedTest(unittest.TestCase):
    def test_no_order_comes_first(self):
        for order in (("c", "a", "b", "d", "e"), (), ORDER[:4], ORDER + ("f",), ("a", "b", "c", "d", "x"),
                      list(ORDER[::-1])):
            for ask in (makers, maker, which_matter, which_hold):
                self.assertRaises(NoOrder, ask, MIXED, order, LASTS)
            self.assertRaises(NoOrder, end_from, MIXED, order, LASTS, ("x",))
            for thing in ((), ("x",), 5):
                self.assertRaises(NoOrder, is_maker, MIXED, order, LASTS, thing)
            self.assertRaises(NoOrder, end_range, MIXED, order, EVEN, LASTS)
            self.assertRaises(NoOrder, worth, MIXED, order, LASTS, "x")
            for end in (-1, 5, 99):
                self.assertRaises(NoOrder, fewest_quick, MIXED, order, LASTS, end)
                self.assertRaises(NoOrder, latencies_reaching, MIXED, order, end)

    def test_no_name(self):
        for ask, handed, name in ((worth, "x", "x"), (worth, "abcdefgh", "abcdefgh"), (end_from, ("a", "x", "y"), "x"),
                                  (end_from, ("f", "x"), "f"), (end_from, listed(("a", "b", "g")), "g")):
            with self.assertRaises(NoName) as caught:
                ask(MIXED, ORDER, LASTS, handed)
            self.assertEqual(caught.exception.name, name)


if __name__ == "__main__":
    unittest.main()
