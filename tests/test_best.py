"""[11]: which ORDERs are best."""

import unittest
from itertools import permutations

from anylatency.best import (beaten_by, best, calmest, classes, how_many_in, is_beaten_by, is_best, is_calmest,
                             is_never_beaten, is_safest, key_of, least_regret, never_beaten, orders_of, regret, safest,
                             safest_gap)
from anylatency.errors import NoOrder
from anylatency.never import alike, later_by, never_later
from tests.small import (LETTERS, MIXED, ROOMY, STRANGE, WIDE, all_latencies, all_orders, chain, end_by_hand,
                         few_blocks, gaps_by_hand, has_list, listed, loose, meeting_by_hand, some_blocks)

EMPTY = ((), ())
QUICK = ((("a", (), False), ("b", ("a",), False), ("c", (), True)), ("a", "b"))
LONE = ((("a", (), True), ("q", (), False), ("u", ("a",), False)), ("u",))
# a and b can be parted, so that some of its ORDERs have a regret, and others none.
SPLIT = ((("a", (), True), ("b", (), True), ("c", ("b",), True), ("q", (), False), ("u", ("a",), False)), ("c", "u"))
# Some of their ORDERs are beaten by none but such with the same GAPs, by which more meet.
EVEN = ((("a", ("b",), True), ("b", (), True), ("c", ("a", "f"), False), ("d", ("b", "e"), True), ("e", (), True),
         ("f", ("a",), False)), ("a", "c", "f"))
LEVEL = ((("a", ("c",), True), ("b", ("c", "e"), True), ("c", (), True), ("d", ("c", "f"), False), ("e", ("a",), False),
          ("f", (), True)), ("d", "e"))


def blocks():
    return few_blocks() + [WIDE, ROOMY, MIXED, LONE, SPLIT, EVEN, LEVEL, chain(3, "b")] + some_blocks()[70::13]


def key_by_hand(block, order):
    return tuple(sorted(gaps_by_hand(block, order).items())), tuple(meeting_by_hand(block, order))


class Table:
    """All ORDERs of a BLOCK, their KEYs, which are never later than which, and by how much they can be later."""

    def __init__(self, block):
        self.block = block
        self.orders = all_orders(block)
        self.keys = {order: key_by_hand(block, order) for order in self.orders}
        self.above = {order: [one for one in self.orders if never_later(block, one, order)] for order in self.orders}
        self.beaters = {order: [one for one in self.above[order] if self.keys[one] != self.keys[order]]
                        for order in self.orders}

    def unbeaten(self):
        return [order for order in self.orders if not self.beaters[order]]

    def regret(self, order):
        mores = [later_by(self.block, order, other) for other in self.orders]
        return None if None in mores else max(mores)


class KeysTest(unittest.TestCase):
    def test_keys_and_classes(self):
        for block in blocks():
            keys = {order: key_by_hand(block, order) for order in all_orders(block)}
            self.assertEqual(classes(block), sorted(set(keys.values())))
            for order in keys:
                self.assertEqual(key_of(block, order), keys[order])
                alike_ones = [other for other in keys if keys[other] == keys[order]]
                self.assertEqual(orders_of(block, keys[order]), alike_ones)
                self.assertEqual(orders_of(block, listed(keys[order])), alike_ones)
                self.assertEqual(how_many_in(block, keys[order]), len(alike_ones))

    def test_alike_with_the_same_key(self):
        for block in few_blocks(2) + [WIDE, SPLIT]:
            orders = all_orders(block)
            for one in orders:
                for other in orders[::3]:
                    self.assertIs(alike(block, one, other), key_of(block, one) == key_of(block, other))

    def test_keys_of_other_blocks(self):
        for key in (((), ()), ((("a", 7), ("b", 7)), ()), key_of(LONE, ("a", "q", "u")), ((("a", 1), ("b", 1)), ())):
            self.assertEqual(orders_of(WIDE, key), [])
            self.assertEqual(how_many_in(WIDE, key), 0)
        self.assertEqual(orders_of(QUICK, ((), ())), [("a", "b", "c"), ("a", "c", "b"), ("c", "a", "b")])
        self.assertEqual((orders_of(EMPTY, ((), ())), how_many_in(EMPTY, [[], []])), ([()], 1))

    def test_new_lists_of_tuples(self):
        for ask, given in ((classes, (WIDE,)), (never_beaten, (WIDE,)), (orders_of, (WIDE, classes(WIDE)[0]))):
            told = ask(*given)
            self.assertFalse(any(has_list(part) for part in told))
            kept = list(told)
            told.clear()
            self.assertEqual(ask(*given), kept)

    def test_six(self):
        block = loose(6, LETTERS[:6])
        self.assertEqual(len(classes(block)), 720)
        self.assertEqual(never_beaten(block), classes(block))
        self.assertEqual(len(classes(chain(6, "f"))), 1)
        self.assertEqual(orders_of(block, key_of(block, tuple("fedcba"))), [tuple("fedcba")])


class BeatenTest(unittest.TestCase):
    def test_beaten(self):
        for block in blocks():
            table = Table(block)
            free = table.unbeaten()
            self.assertEqual(never_beaten(block), sorted({table.keys[order] for order in free}))
            for order in table.orders:
                self.assertIs(is_never_beaten(block, order), order in free)
                good = [one for one in table.beaters[order] if one in free]
                # If an ORDER is beaten, some that is not beaten beats it.
                self.assertEqual(bool(good), order not in free)
                told = beaten_by(block, order)
                self.assertEqual(told is None, not good)
                if good:
                    self.assertIn(told, good)
                for thing in table.orders[::1 + len(table.orders) // 12]:
                    self.assertIs(is_beaten_by(block, order, thing), thing in good)
                    self.assertIs(is_beaten_by(block, order, list(thing)), False)

    def test_beaten_with_the_same_gaps_alone(self):
        for block in (EVEN, LEVEL):
            table = Table(block)
            only = [order for order in table.orders if table.beaters[order] and all(
                table.keys[one][0] == table.keys[order][0] for one in table.beaters[order])]
            self.assertTrue(only)
            for order in only:
                self.assertIs(is_never_beaten(block, order), False)
                self.assertNotIn(table.keys[order], never_beaten(block))
                self.assertIn(beaten_by(block, order), table.beaters[order])

    def test_best(self):
        for block in blocks():
            table = Table(block)
            good = [order for order in table.orders if all(order in table.above[other] for other in table.orders)]
            told = best(block)
            self.assertEqual(told is None, not good)
            if good:
                self.assertIn(told, good)
                # Then the best are just those that are not beaten.
                self.assertEqual(good, table.unbeaten())
            self.assertEqual(bool(good), len(never_beaten(block)) == 1)
            for order in table.orders:
                self.assertIs(is_best(block, order), order in good)

    def test_best_by_ends(self):
        for block in few_blocks(4) + [LONE, chain(3, "c")]:
            orders = all_orders(block)
            told = all_latencies(block, len(block[0]) + 1)
            ends = {order: [end_by_hand(block, order, latencies) for latencies in told] for order in orders}
            for order in orders:
                never = all(mine <= yours for other in orders for mine, yours in zip(ends[order], ends[other]))
                self.assertIs(is_best(block, order), never)

    def test_strange_things(self):
        for thing in STRANGE + (["a", "q", "u"], ("a", "u"), ("u", "a", "q"), ("a", "q", "u", "u"), ("a", "q", ["u"])):
            with self.subTest(thing=thing):
                self.assertIs(is_best(LONE, thing), False)
                self.assertIs(is_calmest(LONE, thing), False)
                self.assertIs(is_safest(LONE, thing), False)
                self.assertIs(is_beaten_by(LONE, ("q", "a", "u"), thing), False)
        order = ("a", "q", "u")
        self.assertIs(is_best(LONE, order), True)
        self.assertIs(is_calmest(LONE, order), True)
        self.assertIs(is_safest(LONE, order), True)
        self.assertIs(is_beaten_by(LONE, ("q", "a", "u"), order), True)
        self.assertIs(is_beaten_by(LONE, ("q", "a", "u"), ("a", "u", "q")), False)

    def test_nobody_awaited(self):
        for block in (EMPTY, QUICK):
            self.assertEqual((classes(block), never_beaten(block)), ([((), ())], [((), ())]))
            for order in all_orders(block):
                self.assertIs(is_best(block, order), True)
                self.assertIs(is_never_beaten(block, order), True)
                self.assertIsNone(beaten_by(block, order))
                self.assertEqual((regret(block, order), least_regret(block)), (0, 0))
                self.assertIs(is_calmest(block, order), True)
                self.assertIs(is_safest(block, order), False)
            self.assertIs(is_best(block, best(block)), True)
            self.assertIs(is_calmest(block, calmest(block)), True)
            self.assertEqual((safest_gap(block), safest(block)), (None, None))
        self.assertEqual((best(EMPTY), calmest(EMPTY)), ((), ()))


class RegretTest(unittest.TestCase):
    def test_regret(self):
        seen = set()
        for block in blocks():
            table = Table(block)
            regrets = {order: table.regret(order) for order in table.orders}
            least = min([number for number in regrets.values() if number is not None], default=None)
            self.assertEqual(least_regret(block), least)
            told = calmest(block)
            if least is None:
                self.assertIsNone(told)
            else:
                self.assertEqual(regrets[told], least)
            for order in table.orders:
                self.assertEqual(regret(block, order), regrets[order])
                self.assertIs(is_calmest(block, order), least is not None and regrets[order] == least)
            seen |= {least} | set(regrets.values())
        self.assertLessEqual({None, 0, 1, 2}, seen)

    def test_regret_by_ends(self):
        for block in few_blocks(5) + [WIDE, LONE]:
            orders = all_orders(block)
            told = all_latencies(block, len(block[0]) + 1)
            ends = {order: [end_by_hand(block, order, latencies) for latencies in told] for order in orders}
            for order in orders:
                number = regret(block, order)
                if number is not None:
                    self.assertEqual(number, max(mine - yours for other in orders
                                                 for mine, yours in zip(ends[order], ends[other])))

    def test_none_has_a_number(self):
        # By no ORDER both pairs meet.
        cross = ((("a", (), True), ("b", (), True), ("p", ("r",), True), ("q", ("s",), True), ("r", ("a",), False),
                  ("s", ("b",), False)), ("p", "q"))
        self.assertEqual((least_regret(cross), calmest(cross), best(cross)), (None, None, None))
        for order in all_orders(cross):
            self.assertIs(is_calmest(cross, order), False)
            self.assertIsNone(regret(cross, order))

    def test_six(self):
        block = loose(6, LETTERS[:6])
        # The first one has its greatest GAP, the last one none: it can end later by 5 than where it is the first one.
        self.assertEqual((regret(block, tuple("abcdef")), least_regret(block)), (5, 5))
        self.assertIs(is_calmest(block, tuple("fbdeca")), True)
        self.assertEqual((regret(chain(6, "f"), tuple("abcdef")), best(chain(6, "f"))), (0, tuple("abcdef")))


class SafestTest(unittest.TestCase):
    def test_safest(self):
        for block in blocks():
            orders = all_orders(block)
            least = {order: min(gaps_by_hand(block, order).values(), default=None) for order in orders}
            told = safest(block)
            if least[orders[0]] is None:
                self.assertEqual((safest_gap(block), told), (None, None))
                self.assertFalse(any(is_safest(block, order) for order in orders))
                continue
            most = max(least.values())
            self.assertEqual(safest_gap(block), most)
            self.assertEqual(least[told], most)
            for order in orders:
                self.assertIs(is_safest(block, order), least[order] == most)
                for name in gaps_by_hand(block, order) if least[order] == most else ():
                    alone = tuple((one, most + 1 if one == name else 1) for one, _, slow in block[0] if slow)
                    self.assertEqual(end_by_hand(block, order, alone), len(order))

    def test_six(self):
        rows = tuple((name, (), True) for name in "abc") + (("u", ("a",), False), ("v", ("b",), False),
                                                           ("w", ("c",), False))
        self.assertEqual(safest_gap((rows, ())), 2)
        good = [order for order in permutations("abcuvw") if is_safest((rows, ()), order)]
        self.assertIn(tuple("abcuvw"), good)
        self.assertTrue(all(gap == 2 for order in good for gap in gaps_by_hand((rows, ()), order).values()))


class RefusedTest(unittest.TestCase):
    def test_no_order(self):
        for order in (("u", "a", "b", "v"), (), ("a", "b", "u"), ("a", "b", "u", "u"), ["v", "b", "a", "u"]):
            for ask in (key_of, is_never_beaten, beaten_by, regret):
                self.assertRaises(NoOrder, ask, WIDE, order)
            for thing in (7, (), ("a", "b", "u", "v")):
                self.assertRaises(NoOrder, is_beaten_by, WIDE, order, thing)


if __name__ == "__main__":
    unittest.main()
