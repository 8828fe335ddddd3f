"""[4]: BLOCKs and their ORDERs."""

import unittest
from itertools import permutations
from math import factorial

from anylatency.blocks import (awaited_in, how_many_orders, is_block, is_order, least_order, made_quick, made_slow,
                               names_in, needed_by, needs_of, number_of_order, order_at, readers_of, reads_of, renamed,
                               slow_in, with_live, with_row, without)
from anylatency.errors import Needs, NoName, NoNumber, NoOrder, Twice
from tests.small import LETTERS, all_orders, block_by, chain, how_many_blocks, loose, some_blocks

EMPTY = ((), ())
BLOCK = ((("a", (), True), ("b", (), True), ("c", ("a", "b"), False)), ("c",))
WIDE = ((("a", (), True), ("b", (), True), ("u", ("a",), False), ("v", ("b",), False)), ("u", "v"))
# e is slow, but nobody reads it; d is read and live; a leads on to d over b and c; f stands alone.
MIXED = ((("a", (), True), ("b", ("a",), False), ("c", ("a",), True), ("d", ("b", "c"), True), ("e", (), True),
          ("f", (), False), ("g", ("d",), False)), ("d", "f"))


def paths_from(steps, name):
    """All that one or more steps lead to, found by going on until nothing is new."""
    found = set(steps[name])
    while True:
        more = found.union(*[steps[one] for one in found])
        if more == found:
            return tuple(sorted(found))
        found = more


class PartsTest(unittest.TestCase):
    def test_empty(self):
        self.assertEqual((names_in(EMPTY), slow_in(EMPTY), awaited_in(EMPTY)), ((), (), ()))

    def test_mixed(self):
        self.assertEqual(names_in(MIXED), ("a", "b", "c", "d", "e", "f", "g"))
        self.assertEqual(reads_of(MIXED, "d"), ("b", "c"))
        self.assertEqual(reads_of(MIXED, "a"), ())
        self.assertEqual(readers_of(MIXED, "a"), ("b", "c"))
        self.assertEqual(readers_of(MIXED, "e"), ())
        self.assertEqual(needs_of(MIXED, "g"), ("a", "b", "c", "d"))
        self.assertEqual(needs_of(MIXED, "f"), ())
        self.assertEqual(needed_by(MIXED, "a"), ("b", "c", "d", "g"))
        self.assertEqual(needed_by(MIXED, "g"), ())
        self.assertEqual(slow_in(MIXED), ("a", "c", "d", "e"))
        self.assertEqual(awaited_in(MIXED), ("a", "c", "d"))

    def test_awaited(self):
        lone = ((("a", (), True),), ())
        self.assertEqual(awaited_in(lone), ())
        self.assertEqual(awaited_in((lone[0], ("a",))), ("a",))
        self.assertEqual(awaited_in(((("a", (), False),), ("a",))), ())
        self.assertEqual(awaited_in(((("a", (), True), ("b", ("a",), True)), ())), ("a",))
        self.assertEqual(awaited_in(((("a", (), True), ("b", ("a",), False)), ("a",))), ("a",))

    def test_chain_of_eight(self):
        block = chain(8)
        self.assertEqual(needs_of(block, "h"), tuple("abcdefg"))
        self.assertEqual(needed_by(block, "a"), tuple("bcdefgh"))
        self.assertEqual(awaited_in(block), tuple("abcdefg"))

    def test_many_blocks(self):
        for block in some_blocks():
            reads = {name: reads for name, reads, _ in block[0]}
            readers = {name: [one for one in reads if name in reads[one]] for name in reads}
            self.assertEqual(names_in(block), tuple(sorted(reads)))
            for name in reads:
                self.assertEqual(reads_of(block, name), reads[name])
                self.assertEqual(readers_of(block, name), tuple(sorted(readers[name])))
                self.assertEqual(needs_of(block, name), paths_from(reads, name))
                self.assertEqual(needed_by(block, name), paths_from(readers, name))
            slow = tuple(name for name, _, is_slow in block[0] if is_slow)
            self.assertEqual(slow_in(block), slow)
            self.assertEqual(awaited_in(block), tuple(n for n in slow if readers[n] or n in block[1]))

    def test_no_name(self):
        for ask in (reads_of, readers_of, needs_of, needed_by, without):
            for block, name in ((EMPTY, "a"), (BLOCK, "d"), (MIXED, "abcdefgh")):
                with self.subTest(ask=ask, name=name):
                    with self.assertRaises(NoName) as caught:
                        ask(block, name)
                    self.assertEqual(caught.exception.name, name)


class IsBlockTest(unittest.TestCase):
    def test_blocks(self):
        for block in [EMPTY, BLOCK, WIDE, MIXED, chain(8), loose(8, LETTERS)] + some_blocks():
            self.assertIs(is_block(block), True)

    def test_great(self):
        names = sorted("".join(name) for name in permutations("abcde"))
        line = tuple((name, tuple(names[max(0, at - 1):at]), True) for at, name in enumerate(names))
        self.assertIs(is_block((line, tuple(names))), True)
        ring = ((names[0], (names[-1],), True),) + line[1:]
        self.assertIs(is_block((ring, ())), False)
        self.assertEqual(len(needs_of((line, ()), names[-1])), len(names) - 1)

    def test_names(self):
        for name in ("a", "z", "abcdefgh", "zzzzzzzz"):
            self.assertIs(is_block((((name, (), True),), (name,))), True)
        strange = ["", "abcdefghi", "A", "aB", "a1", "1", "a b", " a", "a ", "a_", "\xe9", "\xdf", "\u0430", "a\n", "-",
                   "*", "\uff41", "\xaa", 1, 0, None, True, False, (), ("a",), ["a"], b"a"]
        for name in strange:
            with self.subTest(name=name):
                self.assertIs(is_block((((name, (), True),), ())), False)
                self.assertIs(is_block(((("a", (), True),), (name,))), False)
                self.assertIs(is_block(((("a", (name,), True),), ())), False)

    def test_strange_things(self):
        for thing in (0, 1, -1, 10 ** 40, True, False, None, "", "ab", "a", (), ((),), ((), (), ()), [], [(), ()],
                      ([], ()), ((), []), ((()),), (None, None), ((), None), (None, ()), ("", ""), ((), ""), ("", ()),
                      (0, ()), ((), 0), (True, True), ((1,), ()), ((None,), ()), (("abc",), ()), (((),), ()),
                      NoName("a"), (NoName("a"), ()), ((NoName("a"),), ()), ((), (NoName("a"),)),
                      ((((((((((((),),),),),),),),),),), ())):
            with self.subTest(thing=thing):
                self.assertIs(is_block(thing), False)

    def test_lists_at_each_depth(self):
        a, b = ("a", (), True), ("b", ("a",), False)
        self.assertIs(is_block(((a, b), ("b",))), True)
        for thing in ([(a, b), ("b",)], ([a, b], ("b",)), ((list(a), b), ("b",)), ((a, list(b)), ("b",)),
                      ((("a", [], True), b), ("b",)), ((a, ("b", ["a"], False)), ("b",)), ((a, b), ["b"])):
            with self.subTest(thing=thing):
                self.assertIs(is_block(thing), False)

    def test_rows_of_wrong_length(self):
        for row in ((), ("a",), ("a", ()), ("a", (), True, True), ("a", True), ((), "a", True)):
            with self.subTest(row=row):
                self.assertIs(is_block(((row,), ())), False)
        self.assertIs(is_block(((("a", (), True),),)), False)
        self.assertIs(is_block(((("a", (), True),), (), ())), False)

    def test_slow(self):
        for slow in (1, 0, None, "", "True", (), (True,)):
            with self.subTest(slow=slow):
                self.assertIs(is_block(((("a", (), slow),), ())), False)

    def test_sets(self):
        a, b, c = ("a", (), True), ("b", (), True), ("c", (), True)
        self.assertIs(is_block(((a, b, c), ("a", "c"))), True)
        for thing in (((b, a, c), ()), ((a, a), ()), ((a, ("a", (), False)), ()), ((a, c, b), ()),
                      ((a, b), ("b", "a")), ((a, b), ("a", "a")), ((a, b), ("c",)), ((a, b), "a"), ((a, b), "ab"),
                      ((a, b, ("c", ("b", "a"), True)), ()), ((a, b, ("c", ("a", "a"), True)), ()),
                      ((a, b, ("c", "a", True)), ()), ((a, b, ("c", "ab", True)), ()), ((a, b, ("c", "", True)), ()),
                      ((a, b, ("c", None, True)), ()), ((a, ("b", ("c",), True)), ()), (a, ()), (a, b)):
            with self.subTest(thing=thing):
                self.assertIs(is_block(thing), False)

    def test_rings(self):
        self.assertIs(is_block(((("a", ("a",), True),), ())), False)
        self.assertIs(is_block(((("a", ("b",), True), ("b", ("a",), True)), ())), False)
        self.assertIs(is_block(((("a", ("c",), True), ("b", ("a",), True), ("c", ("b",), True)), ())), False)
        self.assertIs(is_block(((("a", (), True), ("b", ("a", "d"), True), ("c", ("b",), True), ("d", ("c",), True),
                                 ("e", ("a",), True)), ())), False)
        self.assertIs(is_block(((("a", ("b", "c"), True), ("b", ("c",), True), ("c", (), True)), ())), True)


class OrdersTest(unittest.TestCase):
    def test_many_blocks(self):
        for block in some_blocks() + [WIDE, block_by(6, how_many_blocks(6) // 7 * 3)]:
            orders = all_orders(block)
            self.assertEqual(how_many_orders(block), len(orders))
            self.assertEqual(least_order(block), orders[0])
            self.assertEqual([order_at(block, number) for number in range(len(orders))], orders)
            self.assertEqual([number_of_order(block, order) for order in orders], list(range(len(orders))))
            for number in (-1, len(orders)):
                self.assertRaises(NoNumber, order_at, block, number)
            for row in permutations(names_in(block)):
                self.assertIs(is_order(block, row), row in orders)

    def test_empty(self):
        self.assertEqual((how_many_orders(EMPTY), least_order(EMPTY), order_at(EMPTY, 0)), (1, (), ()))
        self.assertEqual(number_of_order(EMPTY, ()), 0)
        self.assertIs(is_order(EMPTY, ()), True)

    def test_eight(self):
        block = loose(8)
        self.assertEqual(how_many_orders(block), factorial(8))
        self.assertEqual(order_at(block, factorial(8) - 1), tuple("hgfedcba"))
        for number, row in enumerate(permutations(LETTERS)):
            if number % 997 == 0:
                self.assertEqual(order_at(block, number), row)
                self.assertEqual(number_of_order(block, row), number)
        self.assertEqual(how_many_orders(chain(8)), 1)
        self.assertEqual(order_at(chain(8), 0), tuple(LETTERS))
        self.assertEqual(least_order(((("a", ("h",), True),) + loose(8)[0][1:], ())), tuple("bcdefgha"))

    def test_more_than_eight(self):
        names = "abcdefghijkl"
        block = (tuple((name, (), True) for name in names), ())
        self.assertEqual(how_many_orders(block), factorial(12))
        self.assertEqual(order_at(block, factorial(12) - 1), tuple(names[::-1]))
        self.assertEqual(number_of_order(block, tuple(names[::-1])), factorial(12) - 1)

    def test_no_number(self):
        for block, number in ((WIDE, 6), (WIDE, -1), (EMPTY, 1), (EMPTY, -1), (WIDE, 10 ** 40), (WIDE, -10 ** 40),
                              (loose(8), factorial(8))):
            with self.assertRaises(NoNumber) as caught:
                order_at(block, number)
            self.assertEqual(caught.exception.number, number)

    def test_no_order(self):
        for order in ((), ("a",), ("a", "b"), ("a", "b", "c", "c"), ("a", "a", "c"), ("a", "b", "d"), ("c", "a", "b"),
                      ("a", "c", "b"), ("a", "b", "c", "d"), ["c", "b", "a"]):
            with self.subTest(order=order):
                self.assertRaises(NoOrder, number_of_order, BLOCK, order)
                self.assertIs(is_order(BLOCK, tuple(order)), False)
        self.assertRaises(NoOrder, number_of_order, EMPTY, ("a",))

    def test_is_order_of_strange_things(self):
        for thing in (0, 1, True, False, None, "", "abc", (), [], ["a", "b", "c"], ("a", "b", ["c"]), (("a", "b", "c"),),
                      ("a", "b", 1), ("a", "b", None), ("a", "b", True), ("a", "b", ("c",)), ("a", "b", "C"),
                      ("a", "b", ""), ("a", "b", "abcdefghi"), ("a", "b", "c", None), ((), (), ()), (0, 1, 2),
                      ("a", "b", NoName("c")), (["a"], ["b"], ["c"]), NoName("a")):
            with self.subTest(thing=thing):
                self.assertIs(is_order(BLOCK, thing), False)
        self.assertIs(is_order(BLOCK, ("b", "a", "c")), True)
        for thing in (None, "", [], 0, False, ((),)):
            self.assertIs(is_order(EMPTY, thing), False)


class MadeTest(unittest.TestCase):
    def check_no_name(self, name, ask, *given):
        with self.assertRaises(NoName) as caught:
            ask(*given)
        self.assertEqual(caught.exception.name, name)

    def test_with_row(self):
        one = with_row(EMPTY, ("m", (), True))
        self.assertEqual(one, ((("m", (), True),), ()))
        self.assertEqual(with_row(one, ("b", ("m",), False)), ((("b", ("m",), False), ("m", (), True)), ()))
        self.assertEqual(with_row(one, ("z", (), False)), ((("m", (), True), ("z", (), False)), ()))
        self.assertEqual(with_row(BLOCK, ("c", (), True)), (BLOCK[0][:2] + (("c", (), True),), ("c",)))
        self.assertEqual(with_row(BLOCK, ("b", ("a",), False)),
                         ((BLOCK[0][0], ("b", ("a",), False), BLOCK[0][2]), ("c",)))
        turned = with_row(with_row(BLOCK, ("c", (), False)), ("a", ("c",), True))
        self.assertEqual(turned, ((("a", ("c",), True), ("b", (), True), ("c", (), False)), ("c",)))

    def test_with_row_refused(self):
        for row in (("a", ("c",), True), ("a", ("a",), True), ("x", ("x",), True), ("a", ("a", "b"), True),
                    ("b", ("a", "c"), False)):
            with self.subTest(row=row):
                self.assertRaises(Needs, with_row, BLOCK, row)
        self.assertRaises(Needs, with_row, MIXED, ("a", ("g",), False))
        self.assertRaises(Needs, with_row, EMPTY, ("a", ("a",), True))
        self.check_no_name("x", with_row, BLOCK, ("d", ("a", "x", "y"), True))
        self.check_no_name("x", with_row, BLOCK, ("a", ("a", "c", "x"), True))
        self.check_no_name("b", with_row, EMPTY, ("a", ("a", "b"), True))

    def test_without(self):
        self.assertEqual(without(BLOCK, "a"), ((("b", (), True), ("c", ("b",), False)), ("c",)))
        self.assertEqual(without(BLOCK, "c"), (BLOCK[0][:2], ()))
        self.assertEqual(without(((("a", (), True),), ("a",)), "a"), EMPTY)
        self.assertEqual(without(MIXED, "d"), ((("a", (), True), ("b", ("a",), False), ("c", ("a",), True),
                                                ("e", (), True), ("f", (), False), ("g", (), False)), ("f",)))

    def test_made_slow_and_quick(self):
        for some in ((), ("a",), ("a", "c"), ("a", "b", "c")):
            for ask, slow in ((made_slow, True), (made_quick, False)):
                rows = tuple((name, reads, slow if name in some else was) for name, reads, was in BLOCK[0])
                self.assertEqual(ask(BLOCK, some), (rows, ("c",)))
        for ask in (made_slow, made_quick, with_live):
            self.check_no_name("d", ask, BLOCK, ("a", "d", "e"))
            self.check_no_name("x", ask, EMPTY, ("x",))
            self.assertEqual(ask(EMPTY, ()), EMPTY)

    def test_with_live(self):
        for some in ((), ("a",), ("a", "b", "c")):
            self.assertEqual(with_live(BLOCK, some), (BLOCK[0], some))

    def test_renamed(self):
        self.assertEqual(renamed(BLOCK, ()), BLOCK)
        self.assertEqual(renamed(BLOCK, (("a", "a"),)), BLOCK)
        self.assertEqual(renamed(EMPTY, ()), EMPTY)
        self.assertEqual(renamed(BLOCK, (("a", "z"),)),
                         ((("b", (), True), ("c", ("b", "z"), False), ("z", (), True)), ("c",)))
        ring = renamed(WIDE, (("v", "a"), ("a", "b"), ("b", "u"), ("u", "v")))
        self.assertEqual(ring, ((("a", ("u",), False), ("b", (), True), ("u", (), True), ("v", ("b",), False)),
                                ("a", "v")))
        self.assertTrue(is_block(ring))

    def test_renamed_live_and_reads_ascend(self):
        block = ((("a", (), True), ("b", (), False), ("c", ("a", "b"), False)), ("a", "b"))
        self.assertEqual(renamed(block, (("a", "x"), ("b", "d"))),
                         ((("c", ("d", "x"), False), ("d", (), False), ("x", (), True)), ("d", "x")))

    def test_renamed_refused(self):
        self.check_no_name("x", renamed, BLOCK, (("x", "y"),))
        self.check_no_name("z", renamed, BLOCK, (("a", "b"), ("z", "y"), ("x", "y")))
        for pairs, name in (((("a", "b"),), "b"), ((("a", "z"), ("b", "z")), "z"),
                            ((("c", "b"), ("a", "c"), ("b", "c")), "c"), ((("c", "b"), ("b", "b")), "b")):
            with self.assertRaises(Twice) as caught:
                renamed(BLOCK, pairs)
            self.assertEqual(caught.exception.name, name)
        with self.assertRaises(Twice) as caught:
            renamed(WIDE, (("a", "z"), ("b", "z"), ("u", "c"), ("v", "c")))
        self.assertEqual(caught.exception.name, "c")

    def test_made_are_blocks(self):
        for block in some_blocks():
            names = names_in(block)
            for name in names:
                for made in (without(block, name), made_slow(block, (name,)), made_quick(block, (name,)),
                             with_live(block, (name,)), renamed(block, ((name, "zz"),)),
                             with_row(block, ("zz", (name,), True)), with_row(block, (name, (), True))):
                    self.assertTrue(is_block(made))


if __name__ == "__main__":
    unittest.main()
