"""[9]: neighbours exchanged, instructions moved, free ways, and pauses."""

import unittest
from itertools import product

from anylatency.blocks import is_block, is_order
from anylatency.errors import Needs, NoName, NoNumber, NoOrder, Twice
from anylatency.moves import (better_places, climbed, effect, exchanged, fewest_free, free_for, free_places, free_way,
                              gap_effects, hidden_under, is_free_way, moved, pause_cost, paused, places_for)
from tests.small import (LETTERS, MIXED, ROOMY, THREE, WIDE, Machine, all_latencies, all_orders, chain, end_by_hand,
                         few_blocks, gaps_by_hand, listed, loose, meeting_by_hand, some_blocks, some_latencies,
                         waits_by_hand)

EMPTY = ((), ())
GREAT = 10 ** 40
PLAIN, CLOSE = ("a", "u", "b", "v"), ("a", "b", "u", "v")
# Quick ones alone: all their ORDERs are alike.
QUICK = ((("a", (), False), ("b", (), False), ("c", ("a",), False), ("d", (), True)), ("c",))


def few():
    return few_blocks() + [WIDE, ROOMY, MIXED, QUICK]


def is_never_later(block, one, other):
    """By GAPs and meetings; test_never tells that this holds."""
    ours, theirs = gaps_by_hand(block, one), gaps_by_hand(block, other)
    if any(ours[name] < theirs[name] for name in ours):
        return False
    return set(meeting_by_hand(block, one)) >= set(meeting_by_hand(block, other))


def word_for(block, one, other):
    ours = is_never_later(block, one, other), is_never_later(block, other, one)
    return {(True, True): "alike", (True, False): "better", (False, True): "worse", (False, False): "apart"}[ours]


def swapped(order, place):
    turned = list(order)
    turned[place], turned[place + 1] = turned[place + 1], turned[place]
    return tuple(turned)


def reads_in(block):
    return {name: reads for name, reads, _ in block[0]}


def exchanges(block, order):
    """The pairs (place, ORDER that comes) of all exchanges that can be done."""
    reads = reads_in(block)
    return [(place, swapped(order, place)) for place in range(len(order) - 1)
            if order[place] not in reads[order[place + 1]]]


def free_steps(block, order):
    return [(place, new) for place, new in exchanges(block, order) if is_never_later(block, new, order)]


def turned_in(order, name, place):
    rest = list(order)
    rest.remove(name)
    rest.insert(place, name)
    return tuple(rest)


def distances(block, start):
    """How many free exchanges lead to each ORDER to which some do."""
    found = {start: 0}
    ahead = [start]
    for order in ahead:
        for _, new in free_steps(block, order):
            if new not in found:
                found[new] = found[order] + 1
                ahead.append(new)
    return found


class ExchangedTest(unittest.TestCase):
    def test_exchanged(self):
        for block in few():
            for order in all_orders(block):
                able = dict(exchanges(block, order))
                for place in range(-1, len(order) + 1):
                    for ask in (exchanged, effect, gap_effects):
                        if not 0 <= place < len(order) - 1:
                            with self.assertRaises(NoNumber) as caught:
                                ask(block, order, place)
                            self.assertEqual(caught.exception.number, place)
                        elif place not in able:
                            self.assertRaises(Needs, ask, block, order, place)
                    if place in able:
                        self.assertEqual(exchanged(block, order, place), able[place])
                        self.assertEqual(effect(block, order, place), word_for(block, able[place], order))

    def test_gap_effects(self):
        for block in few():
            reads = reads_in(block)
            for order in all_orders(block):
                waits = waits_by_hand(block, order)
                for place, new in exchanges(block, order):
                    told = gap_effects(block, order, place)
                    was, now = gaps_by_hand(block, order), gaps_by_hand(block, new)
                    self.assertEqual(told, tuple((name, now[name] - was[name]) for name in sorted(was)
                                                 if now[name] != was[name]))
                    # The guarantee, word for word.
                    one, other = order[place], order[place + 1]
                    changes = {name: 0 for name in waits}
                    for name in waits:
                        if name == one:
                            changes[name] -= 1
                        if name == other:
                            changes[name] += 1
                        if waits[name][1] == place and name not in reads[other]:
                            changes[name] += 1
                        if waits[name][1] == place + 1 and name not in reads[one]:
                            changes[name] -= 1
                    self.assertEqual(dict(told), {name: more for name, more in changes.items() if more})

    def test_free_exactly_if(self):
        for block in few():
            reads = reads_in(block)
            for order in all_orders(block):
                waits = waits_by_hand(block, order)
                for place, new in exchanges(block, order):
                    held = [name for name in waits if waits[name][1] == place + 1 and name not in reads[order[place]]]
                    self.assertIs(is_never_later(block, new, order), order[place] not in waits and not held)

    def test_far_places(self):
        for ask in (exchanged, effect, gap_effects):
            for block, order in ((WIDE, PLAIN), (EMPTY, ()), (loose(1), ("a",))):
                for place in (-GREAT, -1, 3, GREAT):
                    with self.assertRaises(NoNumber) as caught:
                        ask(block, order, place)
                    self.assertEqual(caught.exception.number, place)
            self.assertRaises(NoNumber, ask, EMPTY, (), 0)
            self.assertRaises(NoNumber, ask, loose(1), ("a",), 0)


class FreeTest(unittest.TestCase):
    def test_free_and_better_places(self):
        for block in few() + some_blocks()[::7]:
            for order in all_orders(block):
                steps = free_steps(block, order)
                self.assertEqual(free_places(block, order), tuple(place for place, _ in steps))
                better = tuple(place for place, new in steps if not is_never_later(block, order, new))
                self.assertEqual(better_places(block, order), better)

    def test_free_by_all_latencies(self):
        for block in few_blocks(2) + [WIDE]:
            for order in all_orders(block):
                for place, new in exchanges(block, order):
                    later = [told for told in all_latencies(block, len(order) + 1)
                             if end_by_hand(block, new, told) > end_by_hand(block, order, told)]
                    self.assertEqual(place in free_places(block, order), not later)

    def test_climbed(self):
        for block in few() + [THREE]:
            for order in all_orders(block):
                now = order
                while True:
                    better = [new for _, new in free_steps(block, now) if not is_never_later(block, now, new)]
                    if not better:
                        break
                    now = better[0]
                self.assertEqual(climbed(block, order), now)
                self.assertTrue(is_never_later(block, now, order))

    def test_least_better_place_first(self):
        rows = (("a", (), True), ("b", ("a",), False), ("c", (), True), ("d", ("c",), False), ("e", (), True))
        block = (rows, ("e",))
        order = ("a", "b", "c", "d", "e")
        self.assertEqual(better_places(block, order), (1, 3))
        self.assertEqual(climbed(block, order), ("a", "c", "e", "b", "d"))
        self.assertEqual(better_places(block, ("a", "c", "e", "b", "d")), ())

    def test_edges(self):
        for block, order in ((EMPTY, ()), (loose(1), ("a",)), (loose(1, "a"), ("a",)), (chain(8), tuple(LETTERS))):
            self.assertEqual((free_places(block, order), better_places(block, order)), ((), ()))
            self.assertEqual(climbed(block, order), order)
        # Those that nobody waits for are as free as quick ones, and nothing is better.
        self.assertEqual(free_places(loose(8), tuple(LETTERS)), tuple(range(7)))
        self.assertEqual(better_places(loose(8), tuple(LETTERS)), ())
        self.assertEqual(free_places(loose(8, LETTERS), tuple(LETTERS)), ())
        self.assertEqual(climbed(loose(8, "h"), tuple(LETTERS)), tuple("habcdefg"))


class MovedTest(unittest.TestCase):
    def test_moved(self):
        for block in few():
            for order in all_orders(block):
                for name in order:
                    fitting = []
                    for place in range(len(order)):
                        new = turned_in(order, name, place)
                        if is_order(block, new):
                            fitting.append(place)
                            self.assertEqual(moved(block, order, name, place), new)
                        else:
                            self.assertRaises(Needs, moved, block, order, name, place)
                    self.assertEqual(places_for(block, order, name), tuple(fitting))
                    free = [place for place in fitting
                            if is_never_later(block, turned_in(order, name, place), order)]
                    self.assertEqual(free_for(block, order, name), tuple(free))

    def test_refused(self):
        for place in (-GREAT, -1, 4, GREAT):
            with self.assertRaises(NoNumber) as caught:
                moved(WIDE, PLAIN, "v", place)
            self.assertEqual(caught.exception.number, place)
        for name in ("x", "abcdefgh"):
            for place in (-1, 0, 9):
                with self.assertRaises(NoName) as caught:
                    moved(WIDE, PLAIN, name, place)
                self.assertEqual(caught.exception.name, name)
            for ask in (places_for, free_for):
                with self.assertRaises(NoName) as caught:
                    ask(WIDE, PLAIN, name)
                self.assertEqual(caught.exception.name, name)
        self.assertRaises(Needs, moved, WIDE, PLAIN, "u", 0)
        self.assertRaises(Needs, moved, WIDE, PLAIN, "a", 1)
        self.assertRaises(NoName, moved, EMPTY, (), "a", 0)

    def test_eight(self):
        order = tuple(LETTERS)
        self.assertEqual(moved(loose(8), order, "c", 7), tuple("abdefghc"))
        self.assertEqual(places_for(loose(8), order, "c"), tuple(range(8)))
        self.assertEqual(places_for(chain(8), order, "c"), (2,))
        self.assertEqual((free_for(loose(8, "c"), order, "c"), free_for(loose(8, "c"), order, "d")),
                         ((0, 1, 2), (3, 4, 5, 6, 7)))


class WaysTest(unittest.TestCase):
    def test_free_ways(self):
        for block in few_blocks(2) + [WIDE, MIXED, QUICK]:
            orders = all_orders(block)
            for one in orders:
                found = distances(block, one)
                for other in orders:
                    told = free_way(block, one, other)
                    self.assertEqual(fewest_free(block, one, other), found.get(other))
                    self.assertEqual(told is None, other not in found)
                    if told is not None:
                        self.assertEqual(len(told), found[other])
                        self.assertIs(is_free_way(block, one, other, told), True)

    def test_is_free_way(self):
        for block in few_blocks(4) + [WIDE, MIXED, QUICK]:
            orders = all_orders(block)
            for one in orders[::2]:
                for many in range(4):
                    for places in product(range(-1, len(one) + 1), repeat=many):
                        now = one
                        for place in places:
                            now = dict(free_steps(block, now)).get(place) if now is not None else None
                        for other in orders[::3]:
                            self.assertIs(is_free_way(block, one, other, places), now == other)

    def test_is_free_way_of_strange_things(self):
        for thing in (1, 0, True, None, "", "1", [1], [], ("1",), (None,), (True,), ([1],), ((1,),), (1, True),
                      (1, False), (-3,), (4,), (GREAT,), (1, 1), (0,), (2,), (), ((),), NoName("a"), (NoName("a"),)):
            with self.subTest(thing=thing):
                self.assertIs(is_free_way(WIDE, PLAIN, CLOSE, thing), False)
        self.assertIs(is_free_way(WIDE, PLAIN, CLOSE, (1,)), True)
        self.assertIs(is_free_way(WIDE, PLAIN, PLAIN, ()), True)
        self.assertIs(is_free_way(WIDE, PLAIN, PLAIN, []), False)
        self.assertIs(is_free_way(QUICK, ("a", "b", "c", "d"), ("b", "a", "c", "d"), (0,)), True)
        self.assertIs(is_free_way(QUICK, ("a", "b", "c", "d"), ("b", "a", "c", "d"), (False,)), False)
        self.assertIs(is_free_way(QUICK, ("a", "b", "c", "d"), ("b", "a", "c", "d"), (0,) * 401), True)
        self.assertIs(is_free_way(QUICK, ("a", "b", "c", "d"), ("b", "a", "c", "d"), (0,) * 400), False)

    def test_edges(self):
        for block, order in ((EMPTY, ()), (loose(1, "a"), ("a",)), (chain(6), tuple("abcdef"))):
            self.assertEqual((free_way(block, order, order), fewest_free(block, order, order)), ((), 0))
            self.assertIs(is_free_way(block, order, order, ()), True)
            self.assertIs(is_free_way(block, order, order, (0,)), False)

    def test_six(self):
        block, order = loose(6), tuple("abcdef")
        self.assertEqual(fewest_free(block, order, order[::-1]), 15)
        self.assertIs(is_free_way(block, order, order[::-1], free_way(block, order, order[::-1])), True)
        plain, close = ("a", "u", "b", "v", "c", "w"), ("a", "b", "c", "u", "v", "w")
        self.assertEqual((fewest_free(THREE, plain, close), fewest_free(THREE, close, plain)), (3, None))
        # Never later, and yet no free way leads there.
        self.assertEqual((free_way(WIDE, PLAIN, ("b", "a", "u", "v")), fewest_free(WIDE, PLAIN, ("b", "a", "u", "v"))),
                         (None, None))


class PausedTest(unittest.TestCase):
    def test_paused(self):
        for block in few():
            for order in all_orders(block)[::2]:
                for name in ("e", "n", "zzzzzzzz", "aa"):
                    for place in range(len(order) + 1):
                        if name in order:
                            self.assertRaises(Twice, paused, block, order, name, place)
                            continue
                        rows, live = block
                        wider = tuple(sorted(rows + ((name, (), False),))), live
                        longer = order[:place] + (name,) + order[place:]
                        self.assertEqual(paused(block, order, name, place), (wider, longer))
                        self.assertIs(is_block(wider) and is_order(wider, longer), True)

    def test_hidden_under_and_cost(self):
        for turn, block in enumerate(few() + [THREE] + some_blocks()[::9]):
            for order in all_orders(block)[::3]:
                waits, told = waits_by_hand(block, order), some_latencies(block, turn)
                end = Machine(block, order, told).end
                for place in range(len(order) + 1):
                    wider, longer = paused(block, order, "zz", place)
                    later = waits_by_hand(wider, longer)
                    hidden = tuple(name for name in sorted(waits) if later[name][0] < place < later[name][1])
                    self.assertEqual(hidden_under(block, order, place), hidden)
                    cost = pause_cost(block, order, place, told)
                    self.assertEqual(cost, Machine(wider, longer, told).end - end)
                    # The guarantee.
                    self.assertIn(cost, (0, 1))

    def test_cost_by_all_latencies(self):
        for order in all_orders(WIDE):
            for told in all_latencies(WIDE, 4):
                for place in range(5):
                    wider, longer = paused(WIDE, order, "n", place)
                    cost = end_by_hand(wider, longer, told) - end_by_hand(WIDE, order, told)
                    self.assertEqual(pause_cost(WIDE, order, place, told), cost)

    def test_edges(self):
        self.assertEqual(paused(EMPTY, (), "a", 0), (((("a", (), False),), ()), ("a",)))
        self.assertEqual((hidden_under(EMPTY, (), 0), pause_cost(EMPTY, (), 0, ())), ((), 1))
        # A live one without a reader is waited for up to the end, and a pause behind all is hidden under it.
        live = loose(1, "a")
        self.assertEqual((hidden_under(live, ("a",), 0), hidden_under(live, ("a",), 1)), ((), ("a",)))
        self.assertEqual([pause_cost(live, ("a",), 1, (("a", number),)) for number in (1, 2, GREAT)], [1, 0, 0])
        self.assertEqual([pause_cost(live, ("a",), 0, (("a", number),)) for number in (1, 2, GREAT)], [1, 1, 1])
        self.assertEqual([hidden_under(loose(1), ("a",), place) for place in (0, 1)], [(), ()])
        order, told = tuple(LETTERS), tuple((name, GREAT) for name in LETTERS)
        self.assertEqual(hidden_under(loose(8, LETTERS), order, 8), order)
        self.assertEqual([pause_cost(chain(8), order, place, told) for place in range(9)], [1, 0, 0, 0, 0, 0, 0, 0, 1])

    def test_refused(self):
        told = (("a", 3), ("b", 1))
        for place in (-GREAT, -1, 5, GREAT):
            for ask, handed in ((paused, ("n", place)), (hidden_under, (place,)), (pause_cost, (place, told))):
                with self.assertRaises(NoNumber) as caught:
                    ask(WIDE, PLAIN, *handed)
                self.assertEqual(caught.exception.number, place)
            with self.assertRaises(Twice) as caught:
                paused(WIDE, PLAIN, "u", place)
            self.assertEqual(caught.exception.name, "u")


class NoOrderTest(unittest.TestCase):
    def test_no_order_comes_first(self):
        told = (("a", 3), ("b", 1))
        for wrong in (("u", "a", "b", "v"), (), PLAIN[:3], PLAIN + ("w",), ("a", "u", "b", "b"), ("a", "u", "b", "x"),
                      list(PLAIN[::-1])):
            for ask in (free_places, better_places, climbed):
                self.assertRaises(NoOrder, ask, WIDE, wrong)
            for place in (-1, 0, 1, 99):
                for ask in (exchanged, effect, gap_effects, hidden_under):
                    self.assertRaises(NoOrder, ask, WIDE, wrong, place)
                for name in ("a", "x"):
                    self.assertRaises(NoOrder, moved, WIDE, wrong, name, place)
                    self.assertRaises(NoOrder, paused, WIDE, wrong, name, place)
                self.assertRaises(NoOrder, pause_cost, WIDE, wrong, place, told)
            for ask in (places_for, free_for):
                self.assertRaises(NoOrder, ask, WIDE, wrong, "x")
            for one, other in ((wrong, PLAIN), (PLAIN, wrong), (wrong, wrong)):
                self.assertRaises(NoOrder, free_way, WIDE, one, other)
                self.assertRaises(NoOrder, fewest_free, WIDE, one, other)
                for thing in ((), (1,), None):
                    self.assertRaises(NoOrder, is_free_way, WIDE, one, other, thing)

    def test_lists(self):
        self.assertEqual(exchanged(listed(WIDE), listed(PLAIN), 1), CLOSE)
        self.assertEqual(climbed(listed(WIDE), listed(CLOSE)), CLOSE)
        self.assertEqual(free_way(listed(WIDE), listed(PLAIN), listed(CLOSE)), (1,))


if __name__ == "__main__":
    unittest.main()
