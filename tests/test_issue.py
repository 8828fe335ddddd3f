"""[5]: BLOCKs issued by told latencies."""

import unittest

from anylatency.blocks import awaited_in
from anylatency.errors import NoName, NoOrder
from anylatency.issue import (come_ticks, end_of, held_up, how_many_idle, idle_stretches, is_latencies, issue_ticks,
                              issued_at, latencies_of, most_on_way, on_way, quickest_order, slack_of)
from tests.small import LETTERS, Machine, all_orders, chain, loose, slow_names, some_blocks, some_latencies

EMPTY = ((), ())
WIDE = ((("a", (), True), ("b", (), True), ("u", ("a",), False), ("v", ("b",), False)), ("u", "v"))
PLAIN, CLOSE = ("a", "u", "b", "v"), ("a", "b", "u", "v")
GREAT = 10 ** 40
# e is slow, but nobody awaits it; d is read and live.
MIXED = ((("a", (), True), ("b", ("a",), False), ("c", ("a",), True), ("d", ("b", "c"), True), ("e", (), True),
          ("f", (), False), ("g", ("d",), False)), ("d", "f"))


def stretches(ticks):
    """The pairs (first, many) of ticks that stand one behind another."""
    found = []
    for tick in ticks:
        if found and sum(found[-1]) == tick:
            found[-1] = (found[-1][0], found[-1][1] + 1)
        else:
            found.append((tick, 1))
    return tuple(found)


def runs():
    """Many BLOCKs, each with some of its ORDERs and some LATENCIES."""
    for turn, block in enumerate(some_blocks()):
        orders = all_orders(block)
        for at in range(0, len(orders), 1 + len(orders) // 3):
            yield block, orders[at], some_latencies(block, turn + at)


class LatenciesTest(unittest.TestCase):
    def test_latencies_of(self):
        self.assertEqual(latencies_of(WIDE, ()), (("a", 1), ("b", 1)))
        self.assertEqual(latencies_of(WIDE, (("b", GREAT), ("a", 2))), (("a", 2), ("b", GREAT)))
        self.assertEqual(latencies_of(MIXED, (("e", 4),)), (("a", 1), ("c", 1), ("d", 1), ("e", 4)))
        self.assertEqual(latencies_of(EMPTY, ()), ())

    def test_latencies_of_refused(self):
        for pairs, name in (((("x", 2),), "x"), ((("a", 2), ("v", 3), ("u", 4)), "v"), ((("z", 1), ("u", 4)), "z")):
            with self.assertRaises(NoName) as caught:
                latencies_of(WIDE, pairs)
            self.assertEqual(caught.exception.name, name)

    def test_is_latencies(self):
        self.assertIs(is_latencies(EMPTY, ()), True)
        for thing in ((("a", 1), ("b", 1)), (("a", GREAT), ("b", GREAT ** 2))):
            self.assertIs(is_latencies(WIDE, thing), True)
        for block in some_blocks():
            told = some_latencies(block, 3)
            self.assertIs(is_latencies(block, told), True)
            self.assertIs(is_latencies(block, latencies_of(block, ())), True)
            for at in range(len(told)):
                self.assertIs(is_latencies(block, told[:at] + told[at + 1:]), False)

    def test_is_latencies_of_strange_things(self):
        a, b = ("a", 1), ("b", 1)
        for thing in (0, 1, True, False, None, "", "ab", (), [], a, (a,), (b,), (b, a), (a, a), (a, b, b), (a, a, b),
                      (a, b, ("u", 1)), (a, ("u", 1)), (a, b, ("z", 1)), [a, b], (list(a), b), (a, ["b", 1]),
                      (a, ("b",)), (a, ("b", 1, 1)), (a, ()), (a, "b"), (a, "b1"), (a, None), (a, 1), (a, True),
                      (a, ("b", 0)), (a, ("b", -1)), (a, ("b", -GREAT)), (a, ("b", True)), (a, ("b", False)),
                      (a, ("b", None)), (a, ("b", "1")), (a, ("b", (1,))), (a, ("b", [])), (a, ("B", 1)), (a, ("", 1)),
                      (a, (1, "b")), (a, (None, 1)), (a, (("b",), 1)), (a, (["b"], 1)), ((a, b),), (("ab", 1),),
                      NoName("a"), (a, NoName("b")), (a, (NoName("b"), 1)), (a, ("b", NoName("b")))):
            with self.subTest(thing=thing):
                self.assertIs(is_latencies(WIDE, thing), False)
        for thing in (None, [], "", 0, False, ((),), (a,)):
            self.assertIs(is_latencies(EMPTY, thing), False)


class MachineTest(unittest.TestCase):
    def test_ticks_and_end(self):
        for block, order, told in runs():
            machine = Machine(block, order, told)
            self.assertEqual(issue_ticks(block, order, told), tuple(machine.issues[name] for name in order))
            self.assertEqual(come_ticks(block, order, told), tuple(machine.comes[name] for name in order))
            self.assertEqual(end_of(block, order, told), machine.end)

    def test_idle(self):
        for block, order, told in runs():
            idle = Machine(block, order, told).idle()
            self.assertEqual(idle_stretches(block, order, told), stretches(idle))
            self.assertEqual(how_many_idle(block, order, told), len(idle))

    def test_held_up(self):
        for block, order, told in runs():
            machine = Machine(block, order, told)
            held = []
            for name in order:
                at = machine.issues[name]
                waited = at > 0 and machine.log[at - 1] is None
                held.append(tuple(one for one in machine.reads[name] if waited and machine.comes[one] == at))
            self.assertEqual(held_up(block, order, told), tuple(held))

    def test_at_each_tick(self):
        for block, order, told in runs():
            machine = Machine(block, order, told)
            slow = slow_names(block)
            most = 0
            for tick in range(-3, max(machine.comes.values(), default=0) + machine.end + 3):
                issued = machine.log[tick] if 0 <= tick < machine.end else None
                self.assertEqual(issued_at(block, order, told, tick), issued)
                self.assertEqual(on_way(block, order, told, tick), machine.on_way(slow, tick))
                most = max(most, len(machine.on_way(slow, tick)))
            self.assertEqual(most_on_way(block, order, told), most)

    def test_slack(self):
        for block, order, told in runs():
            for name, many in told:
                slack = slack_of(block, order, told, name)
                if name not in awaited_in(block):
                    self.assertIsNone(slack)
                    continue
                ends = []
                for more in (0, slack, slack + 1):
                    grown = tuple((one, was + more if one == name else was) for one, was in told)
                    ends.append(Machine(block, order, grown).end)
                self.assertEqual(ends, [ends[0], ends[0], ends[0] + 1])

    def test_quickest(self):
        for turn, block in enumerate(some_blocks()):
            told = some_latencies(block, turn)
            ends = [(Machine(block, order, told).end, order) for order in all_orders(block)]
            self.assertEqual(quickest_order(block, told), min(ends)[::-1])


class EdgesTest(unittest.TestCase):
    def test_empty(self):
        self.assertEqual((issue_ticks(EMPTY, (), ()), come_ticks(EMPTY, (), ()), end_of(EMPTY, (), ())), ((), (), 0))
        self.assertEqual((idle_stretches(EMPTY, (), ()), how_many_idle(EMPTY, (), ())), ((), 0))
        self.assertEqual((held_up(EMPTY, (), ()), most_on_way(EMPTY, (), ())), ((), 0))
        self.assertEqual((issued_at(EMPTY, (), (), 0), on_way(EMPTY, (), (), 0)), (None, ()))
        self.assertEqual(quickest_order(EMPTY, ()), ((), 0))

    def test_one(self):
        wanted, idle = ((("a", (), True),), ("a",)), ((("a", (), True),), ())
        told = (("a", 7),)
        self.assertEqual((end_of(wanted, ("a",), told), end_of(idle, ("a",), told)), (7, 1))
        self.assertEqual((idle_stretches(wanted, ("a",), told), held_up(wanted, ("a",), told)), ((), ((),)))
        self.assertEqual([on_way(idle, ("a",), told, tick) for tick in (-1, 0, 6, 7)], [(), ("a",), ("a",), ()])
        self.assertEqual([issued_at(idle, ("a",), told, tick) for tick in (-1, 0, 1, 7)], [None, "a", None, None])
        self.assertEqual((slack_of(wanted, ("a",), told, "a"), slack_of(idle, ("a",), told, "a")), (0, None))

    def test_quick_ones(self):
        block = ((("a", (), False), ("b", ("a",), False)), ("a", "b"))
        self.assertEqual((issue_ticks(block, ("a", "b"), ()), come_ticks(block, ("a", "b"), ())), ((0, 1), (1, 2)))
        self.assertEqual((end_of(block, ("a", "b"), ()), most_on_way(block, ("a", "b"), ())), (2, 0))
        self.assertEqual((on_way(block, ("a", "b"), (), 0), held_up(block, ("a", "b"), ())), ((), ((), ())))

    def test_latency_of_one_is_on_its_way(self):
        told = latencies_of(WIDE, ())
        self.assertEqual([on_way(WIDE, CLOSE, told, tick) for tick in range(4)], [("a",), ("b",), (), ()])
        self.assertEqual(most_on_way(WIDE, CLOSE, told), 1)

    def test_held_up_by_just_the_last(self):
        block = ((("a", (), True), ("b", (), True), ("c", ("a", "b"), False)), ("c",))
        order = ("a", "b", "c")
        for told, held in (((5, 4), ("a", "b")), ((6, 4), ("a",)), ((5, 5), ("b",)), ((2, 1), ()), ((1, 1), ())):
            self.assertEqual(held_up(block, order, (("a", told[0]), ("b", told[1])))[2], held)

    def test_great_latencies(self):
        told = (("a", GREAT), ("b", GREAT))
        self.assertEqual(issue_ticks(WIDE, PLAIN, told), (0, GREAT, GREAT + 1, 2 * GREAT + 1))
        self.assertEqual(come_ticks(WIDE, PLAIN, told), (GREAT, GREAT + 1, 2 * GREAT + 1, 2 * GREAT + 2))
        self.assertEqual((end_of(WIDE, PLAIN, told), end_of(WIDE, CLOSE, told)), (2 * GREAT + 2, GREAT + 2))
        self.assertEqual(idle_stretches(WIDE, PLAIN, told), ((1, GREAT - 1), (GREAT + 2, GREAT - 1)))
        self.assertEqual(how_many_idle(WIDE, PLAIN, told), 2 * GREAT - 2)
        self.assertEqual(held_up(WIDE, CLOSE, told), ((), (), ("a",), ()))
        self.assertEqual((issued_at(WIDE, PLAIN, told, GREAT), issued_at(WIDE, PLAIN, told, GREAT - 1)), ("u", None))
        self.assertEqual((issued_at(WIDE, PLAIN, told, -GREAT), issued_at(WIDE, PLAIN, told, GREAT ** 2)), (None, None))
        self.assertEqual((on_way(WIDE, CLOSE, told, GREAT), on_way(WIDE, CLOSE, told, GREAT - 1)), (("b",), ("a", "b")))
        self.assertEqual((on_way(WIDE, CLOSE, told, -GREAT), on_way(WIDE, CLOSE, told, GREAT ** 2)), ((), ()))
        self.assertEqual((most_on_way(WIDE, PLAIN, told), most_on_way(WIDE, CLOSE, told)), (1, 2))
        self.assertEqual((slack_of(WIDE, CLOSE, (("a", GREAT), ("b", 1)), "b")), GREAT - 1)
        self.assertEqual((slack_of(WIDE, PLAIN, told, "a"), slack_of(WIDE, CLOSE, told, "a")), (0, 0))
        self.assertEqual(quickest_order(WIDE, (("a", 3), ("b", GREAT))), (("b", "a", "u", "v"), GREAT + 1))

    def test_slack_of_live_one(self):
        block = ((("a", (), True), ("b", (), True)), ("a", "b"))
        self.assertEqual(slack_of(block, ("a", "b"), (("a", 3), ("b", 9)), "a"), 7)
        self.assertEqual(slack_of(block, ("b", "a"), (("a", 3), ("b", GREAT)), "a"), GREAT - 4)

    def test_awaited_or_not(self):
        order = ("a", "e", "c", "b", "d", "f", "g")
        told = (("a", 2), ("c", 3), ("d", 4), ("e", 50))
        self.assertIsNone(slack_of(MIXED, order, told, "e"))
        self.assertEqual((issue_ticks(MIXED, order, told), end_of(MIXED, order, told)), ((0, 1, 2, 3, 5, 6, 9), 10))
        self.assertEqual(on_way(MIXED, order, told, 20), ("e",))

    def test_eight(self):
        line = tuple((name, 3) for name in LETTERS)
        order = tuple(LETTERS)
        self.assertEqual(issue_ticks(chain(8), order, line), tuple(range(0, 24, 3)))
        self.assertEqual((end_of(chain(8), order, line), end_of(chain(8, "h"), order, line)), (22, 24))
        self.assertEqual(quickest_order(chain(8), line), (order, 22))
        self.assertEqual(held_up(chain(8), order, line), ((),) + tuple((name,) for name in LETTERS[:7]))
        rising = tuple((name, 1 + 2 * at) for at, name in enumerate(LETTERS))
        self.assertEqual(quickest_order(loose(8, LETTERS), rising), (tuple("hagbfced"), 15))
        self.assertEqual(most_on_way(loose(8), order, tuple((name, GREAT) for name in LETTERS)), 8)
        self.assertEqual(most_on_way(loose(8), order, line), 3)

    def test_quickest_of_seven(self):
        for many, numbers in ((0, (2, 3, 5)), (1, (1, 4, 6, 9)), (2, (4, 1, GREAT))):
            rows = [("a", (), True), ("b", (), True), ("c", ("a",)[:many], True), ("d", ("b",), False),
                    ("e", ("c", "d")[:many], True), ("f", ("a",), True), ("g", ("b",)[many:], False)]
            block = (tuple(rows), ("d", "e", "f", "g"))
            told = tuple((name, numbers[at % len(numbers)]) for at, name in enumerate(slow_names(block)))
            ends = [(end_of(block, order, told), order) for order in all_orders(block)]
            self.assertEqual(quickest_order(block, told), min(ends)[::-1])


class RefusedTest(unittest.TestCase):
    def test_no_order(self):
        told = latencies_of(WIDE, ())
        for order in (("u", "a", "b", "v"), (), ("a", "b", "u"), ("a", "b", "u", "u"), ("a", "b", "u", "x"),
                      ("a", "b", "u", "v", "v"), ["v", "b", "a", "u"]):
            for ask in (issue_ticks, come_ticks, end_of, idle_stretches, how_many_idle, held_up, most_on_way):
                self.assertRaises(NoOrder, ask, WIDE, order, told)
            for ask in (issued_at, on_way):
                self.assertRaises(NoOrder, ask, WIDE, order, told, 1)
            for name in ("a", "u", "x"):
                self.assertRaises(NoOrder, slack_of, WIDE, order, told, name)

    def test_no_slow_one(self):
        for name in ("u", "x", "abcdefgh"):
            with self.assertRaises(NoName) as caught:
                slack_of(WIDE, PLAIN, latencies_of(WIDE, ()), name)
            self.assertEqual(caught.exception.name, name)


if __name__ == "__main__":
    unittest.main()
