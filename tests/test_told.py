"""[13]: what ENDs tell of a hidden ORDER."""

import unittest
from itertools import combinations, product

from anylatency.errors import NoName, NoOrder
from anylatency.never import alike
from anylatency.told import (best_ask, first_misfit, fits_readings, gap_ask, is_readings, keys_that_fit, known_gaps,
                             next_ends, orders_that_fit, pair_ask, sure_meets, told_back)
from tests.small import (LETTERS, MIXED, ROOMY, STRANGE, WIDE, all_latencies, all_orders, chain, end_by_hand,
                         few_blocks, gaps_by_hand, listed, loose, meeting_by_hand, slow_names, some_blocks,
                         some_latencies, waits_by_hand)

EMPTY = ((), ())
GREAT = 10 ** 40
JOINT = ((("a", (), True), ("b", (), True), ("c", ("a", "b"), False)), ("c",))
FAR = (("a", 5), ("b", 1))


def blocks():
    return few_blocks(2) + [WIDE, ROOMY, MIXED, JOINT, chain(3, "c")] + some_blocks()[70::29]


def reading_lists(block):
    """Tuples of READINGs: as they come by some ORDERs, and such with ENDs that come by none or by others."""
    orders = all_orders(block)
    asks = [some_latencies(block, turn) for turn in range(4)]
    found = [()]
    for at, order in enumerate(orders[::1 + len(orders) // 3]):
        ends = [(latencies, end_by_hand(block, order, latencies)) for latencies in asks]
        found.extend((tuple(ends[:1]), tuple(ends), tuple(ends[at % 2:3]), tuple(ends[:2] + ends[:1])))
        found.append(((ends[0][0], ends[0][1]), (ends[1][0], ends[1][1] + 1), ends[2]))
        found.append(((ends[0][0], -1),))
    if len(orders) > 1:
        found.append(tuple((latencies, end_by_hand(block, orders[at % 2], latencies))
                           for at, latencies in enumerate(asks)))
    return found


def runs():
    for block in blocks():
        orders = all_orders(block)
        for readings in reading_lists(block):
            yield block, readings, [order for order in orders if all(
                end_by_hand(block, order, latencies) == end for latencies, end in readings)]


class ReadingsTest(unittest.TestCase):
    def test_is_readings(self):
        for block in blocks():
            latencies = some_latencies(block, 3)
            for end in (0, -7, GREAT):
                self.assertIs(is_readings(block, ((latencies, end),)), True)
                self.assertIs(is_readings(block, ((latencies, end),) * 20), True)
                self.assertIs(is_readings(block, [(latencies, end)]), False)
                self.assertIs(is_readings(block, ([latencies, end],)), False)
                self.assertIs(is_readings(block, ((latencies, end), (latencies, end, end))), False)
                self.assertIs(is_readings(block, ((latencies + (("x", 1),), end),)), False)
            self.assertIs(is_readings(block, ()), True)

    def test_strange_things(self):
        for thing in STRANGE:
            with self.subTest(thing=thing):
                self.assertIs(is_readings(JOINT, thing), False)
                self.assertIs(is_readings(JOINT, (thing,)), False)
                self.assertIs(is_readings(JOINT, ((thing, 5),)), False)
                good = isinstance(thing, int) and not isinstance(thing, bool)
                self.assertIs(is_readings(JOINT, ((FAR, thing),)), good)
        for thing in (((FAR, 6), (FAR, True)), ((FAR, 6), (FAR[:1], 6)), ((FAR, 6), ((("a", 0), ("b", 1)), 6)),
                      ((FAR[::-1], 6),), ((listed(FAR), 6),), ((FAR,),), FAR, (FAR, 6), NoOrder()):
            self.assertIs(is_readings(JOINT, thing), False)


class FitsTest(unittest.TestCase):
    def test_orders_and_keys_that_fit(self):
        seen = set()
        for block, readings, good in runs():
            self.assertEqual(orders_that_fit(block, readings), good)
            keys = {(tuple(sorted(gaps_by_hand(block, order).items())), tuple(meeting_by_hand(block, order)))
                    for order in good}
            self.assertEqual(keys_that_fit(block, readings), sorted(keys))
            for order in all_orders(block)[::5]:
                self.assertIs(fits_readings(block, order, readings), order in good)
            seen.add(min(2, len(good)))
        self.assertEqual(seen, {0, 1, 2})

    def test_what_is_sure(self):
        for block, readings, good in runs():
            told, sure = known_gaps(block, readings), sure_meets(block, readings)
            if not good:
                self.assertEqual((told, sure), (None, None))
                continue
            names = sorted(waits_by_hand(block, good[0]))
            numbers = {name: [gaps_by_hand(block, order)[name] for order in good] for name in names}
            self.assertEqual(told, tuple((name, min(numbers[name]), max(numbers[name])) for name in names))
            met = [set(meeting_by_hand(block, order)) for order in good]
            pairs = list(combinations(names, 2))
            self.assertEqual(sure, (tuple(pair for pair in pairs if all(pair in some for some in met)),
                                    tuple(pair for pair in pairs if not any(pair in some for some in met))))

    def test_next_ends(self):
        for block, readings, good in runs():
            for turn in (0, 5):
                latencies = some_latencies(block, turn)
                ends = sorted({end_by_hand(block, order, latencies) for order in good})
                self.assertEqual(next_ends(block, readings, latencies), ends)

    def test_first_misfit(self):
        seen = set()
        for block, readings, good in runs():
            told = first_misfit(block, readings)
            if good:
                self.assertIsNone(told)
            else:
                self.assertEqual(orders_that_fit(block, readings[:told + 1]), [])
                self.assertNotEqual(orders_that_fit(block, readings[:told]), [])
            seen.add(told)
        self.assertLessEqual({None, 0, 1}, seen)

    def test_best_ask(self):
        seen = set()
        for block, readings, good in runs():
            asks = tuple(some_latencies(block, turn) for turn in (9, 2, 7, 4, 1))
            for some in (asks, asks[::-1], asks[:1], asks[1:] + asks[1:]):
                many = [len({end_by_hand(block, order, latencies) for order in good}) for latencies in some]
                told = best_ask(block, readings, some)
                self.assertEqual(told, many.index(max(many)))
                seen.add(told)
            self.assertIsNone(best_ask(block, readings, ()))
        self.assertLessEqual({0, 1, 2}, seen)

    def test_no_readings(self):
        for block in blocks():
            orders = all_orders(block)
            self.assertEqual(orders_that_fit(block, ()), orders)
            self.assertIsNone(first_misfit(block, ()))
            self.assertIs(fits_readings(block, orders[0], ()), True)
        self.assertEqual((orders_that_fit(EMPTY, (((), 0),)), first_misfit(EMPTY, (((), 1),))), ([()], 0))
        self.assertEqual((known_gaps(EMPTY, ()), sure_meets(EMPTY, ()), next_ends(EMPTY, (), ())), ((), ((), ()), [0]))

    def test_lists(self):
        readings = [[["a", 5], ["b", 1]], 6]
        self.assertEqual(orders_that_fit(listed(JOINT), [readings]), [("a", "b", "c")])
        self.assertEqual(sure_meets(listed(JOINT), [readings]), ((("a", "b"),), ()))
        self.assertIs(fits_readings(listed(JOINT), ["a", "b", "c"], (readings,)), True)
        told = orders_that_fit(JOINT, ())
        told.clear()
        self.assertEqual(len(orders_that_fit(JOINT, ())), 2)

    def test_six(self):
        block = loose(6, LETTERS[:6])
        ask = tuple((name, 5 * at + 1) for at, name in enumerate(LETTERS[:6]))
        readings = tuple((tuple((name, 30 if name == one else 1) for name in LETTERS[:6]), 30 + at)
                         for at, one in enumerate("fdbeca"))
        self.assertEqual(orders_that_fit(block, readings), [tuple("fdbeca")])
        self.assertEqual(first_misfit(block, readings + (readings[1][:1] + (30,),)), 6)
        self.assertEqual(next_ends(block, (), ask), list(range(26, 32)))

    def test_no_order(self):
        for order in (("c", "a", "b"), (), ("a", "b"), ["b", "c", "a"]):
            for readings in ((), ((FAR, 6),)):
                self.assertRaises(NoOrder, fits_readings, JOINT, order, readings)


class AsksTest(unittest.TestCase):
    def test_asks(self):
        for block in blocks():
            many, slow = len(block[0]), slow_names(block)
            for name in slow:
                told = tuple((one, many + 1 if one == name else 1) for one in slow)
                self.assertEqual(gap_ask(block, name), told)
            for one, other in product(slow, repeat=2):
                if one != other:
                    told = tuple((name, 2 * many + 1 if name in (one, other) else 1) for name in slow)
                    self.assertEqual(pair_ask(block, one, other), told)

    def test_they_tell_all(self):
        for block in blocks():
            orders = all_orders(block)
            names = sorted(waits_by_hand(block, orders[0]))
            asks = [gap_ask(block, name) for name in names]
            asks += [pair_ask(block, one, other) for one, other in combinations(names, 2)]
            ends = {order: [end_by_hand(block, order, latencies) for latencies in asks] for order in orders}
            for one, other in list(product(orders, repeat=2))[::1 + len(orders) ** 2 // 60]:
                self.assertIs(alike(block, one, other), ends[one] == ends[other])

    def test_no_name(self):
        for block, given, name in ((JOINT, ("c",), "c"), (JOINT, ("x",), "x"), (EMPTY, ("a",), "a")):
            with self.assertRaises(NoName) as caught:
                gap_ask(block, *given)
            self.assertEqual(caught.exception.name, name)
        for one, other, name in (("a", "c", "c"), ("c", "x", "c"), ("x", "c", "x"), ("c", "a", "c")):
            with self.assertRaises(NoName) as caught:
                pair_ask(JOINT, one, other)
            self.assertEqual(caught.exception.name, name)


class ToldBackTest(unittest.TestCase):
    def test_told_back(self):
        for block in blocks():
            orders = all_orders(block)
            names = sorted(waits_by_hand(block, orders[0]))
            for hidden in orders[::1 + len(orders) // 6]:
                asked = []

                def asker(latencies):
                    asked.append(latencies)
                    return end_by_hand(block, hidden, latencies)

                told = told_back(block, asker)
                self.assertEqual(asked, [gap_ask(block, name) for name in names]
                                 + [pair_ask(block, one, other) for one, other in combinations(names, 2)])
                same = [order for order in orders if alike(block, order, hidden)]
                self.assertEqual(told, same[0])

    def test_no_such_order(self):
        for end in (-1, 0, 2, 99, GREAT):
            self.assertIsNone(told_back(JOINT, lambda latencies: end))
        self.assertEqual(told_back(EMPTY, lambda latencies: 1 // 0), ())

    def test_errors_are_passed_on(self):
        class Lost(Exception):
            pass

        for raised in (Lost(), NoName("a"), NoOrder(), KeyError("x"), ValueError("x"), StopIteration()):
            def asker(latencies):
                if latencies[1][1] > 1:
                    raise raised
                return end_by_hand(JOINT, ("a", "b", "c"), latencies)

            with self.assertRaises(raised.__class__) as caught:
                told_back(JOINT, asker)
            self.assertIs(caught.exception, raised)

    def test_least_of_alike_ones(self):
        block = ((("a", (), True), ("p", (), False), ("q", (), False), ("u", ("a",), False)), ())
        hidden = ("a", "q", "p", "u")
        self.assertEqual(told_back(block, lambda latencies: end_by_hand(block, hidden, latencies)),
                         ("a", "p", "q", "u"))
        given = listed(block)
        self.assertEqual(told_back(given, lambda latencies: given.clear() or end_by_hand(block, hidden, latencies)),
                         ("a", "p", "q", "u"))


if __name__ == "__main__":
    unittest.main()
