"""[12]: LOOPs, round by round."""

import unittest
from functools import lru_cache
from itertools import combinations, product
from math import gcd, lcm

from anylatency.errors import NoName, NoOrder
from anylatency.loops import (awaited_in_rounds, carried_readers, first_later, is_loop, joint_meeting, loop_alike,
                              loop_later_by, loop_never_later, loop_slow_ones, pace, round_gap, rounds_end)
from tests.small import (LETTERS, STRANGE, WIDE, all_latencies, all_orders, all_sets, end_by_hand, few_blocks, has_list,
                         listed, slow_names, some_latencies)

GREAT = 10 ** 40
EMPTY = (((), ()), ())
LOOP = (((("a", (), True), ("u", (), False)), ("u",)), (("a", "u"),))
LATE, SOON = ("u", "a"), ("a", "u")
BOTH = (((("a", (), True), ("b", (), True), ("u", ("b",), False)), ("u",)), (("a", "u"), ("b", "b")))
# Each slow one needs itself of the round ahead; a is read in its own round, too.
SELVES = (((("a", (), True), ("b", (), True), ("u", ("a",), False), ("v", (), False)), ("a",)),
          (("a", "a"), ("a", "v"), ("b", "v")))
# Nothing is carried.
PLAIN = (WIDE, ())
# Both carried results are read far on in the next round.
LONG = (((("a", (), True), ("b", (), True), ("c", (), False), ("d", (), False), ("u", (), False), ("v", (), False)),
         ("v",)), (("a", "u"), ("b", "v")))


def carried_sets(block, step):
    """Some sets of carried pairs."""
    pairs = list(product([name for name, _, _ in block[0]], repeat=2))
    return [()] + [tuple(some) for many in (1, 2, 3) for some in list(combinations(pairs, many))[::step ** (many - 1)]]


@lru_cache
def loops():
    found = [EMPTY, LOOP, BOTH, SELVES, PLAIN]
    for at, block in enumerate(few_blocks(3)):
        many = len(block[0])
        every = carried_sets(block, 5)
        found.extend((block, carried) for carried in every[at % 7::1 + 3 * many])
    return found


def waits_in_rounds(loop, order, rounds):
    """A dict with the WAIT of each (round, NAME) that is awaited there, told just as the document does."""
    (rows, live), carried = loop
    many = len(order)
    found = {}
    for at in range(rounds):
        for name in slow_names(loop[0]):
            here = [order.index(one) for one, reads, _ in rows if name in reads]
            there = [many + order.index(reader) for one, reader in carried if one == name]
            if at == rounds - 1:
                end = min(here + [many]) if here or name in live else None
            else:
                end = min(here or there, default=None)
            if end is not None:
                found[at, name] = (many * at + order.index(name), many * at + end)
    return found


def gaps_in_rounds(loop, order, rounds):
    return {key: end - place - 1 for key, (place, end) in waits_in_rounds(loop, order, rounds).items()}


def meets_in_rounds(loop, order, rounds):
    waits = waits_in_rounds(loop, order, rounds)
    return {(one, other) for one, other in combinations(sorted(waits), 2)
            if set(range(*waits[one])) & set(range(*waits[other]))}


def sums_in_rounds(loop, order, rounds):
    """All sets of pairs (round, NAME) that add up."""
    meets = meets_in_rounds(loop, order, rounds)
    return [some for some in all_sets(waits_in_rounds(loop, order, rounds))
            if not any(pair in meets for pair in combinations(some, 2))]


def end_in_rounds(loop, order, lasts, rounds):
    """The END, gone through tick by tick; lasts tells what (round, NAME) takes, 1 where it tells nothing."""
    (rows, live), carried = loop
    reads = {name: reads for name, reads, _ in rows}
    comes = {}
    tick = 0
    for at in range(rounds):
        for name in order:
            needs = [(at, one) for one in reads[name]]
            if at > 0:
                needs += [(at - 1, one) for one, reader in carried if reader == name]
            while not all(comes[one] <= tick for one in needs):
                tick += 1
            comes[at, name] = tick + lasts.get((at, name), 1)
            tick += 1
    return max([tick] + [comes[rounds - 1, name] for name in live])


def same_each_round(latencies, rounds):
    return {(at, name): number for at in range(rounds) for name, number in latencies}


class LoopsTest(unittest.TestCase):
    def test_is_loop(self):
        for loop in loops() + [LONG]:
            self.assertIs(is_loop(loop), True)
            self.assertIs(is_loop(list(loop)), False)
            self.assertIs(is_loop((loop[0], list(loop[1]))), False)
            self.assertIs(is_loop(listed(loop)), False)
            self.assertIs(is_loop(loop[:1]), False)
            self.assertIs(is_loop(loop + ((),)), False)
            self.assertIs(is_loop((loop[0], loop[1] + (("x", "x"),))), False)
            if loop[1]:
                self.assertIs(is_loop((loop[0], loop[1] + loop[1][:1])), False)
                self.assertIs(is_loop((loop[0], (list(loop[1][0]),) + loop[1][1:])), False)
                self.assertIs(is_loop((loop[0], (loop[1][0] + ("a",),) + loop[1][1:])), False)

    def test_is_loop_of_strange_things(self):
        for thing in STRANGE:
            with self.subTest(thing=thing):
                self.assertIs(is_loop(thing), False)
                self.assertIs(is_loop((thing, ())), False)
                self.assertIs(is_loop((BOTH[0], thing)), thing in ((("b", "a"),), (("a", "a"),)))
                self.assertIs(is_loop((BOTH[0], (thing,))), thing in (("a", "a"), ("b", "a")))
                self.assertIs(is_loop((BOTH[0], ((thing, "a"),))), thing == "a")
                self.assertIs(is_loop((BOTH[0], (("a", thing),))), thing == "a")
        for carried in ((("a", "x"),), (("x", "a"),), (("b", "b"), ("a", "u")), (("a", "u"), ("a", "b")), ("au",),
                        (("a",),), (("a", "u", "b"),), (("a", ("u",)),), (("a", 1),), NoName("a")):
            self.assertIs(is_loop((BOTH[0], carried)), False)

    def test_is_loop_of_great_ones(self):
        names = [one + other for one in LETTERS for other in LETTERS]
        rows = tuple((name, (), True) for name in names)
        carried = tuple((one, other) for one in names for other in names)
        self.assertIs(is_loop(((rows, tuple(names)), carried)), True)
        self.assertIs(is_loop(((rows, tuple(names)), carried[::-1])), False)

    def test_carried_readers(self):
        for loop in loops():
            for name, _, _ in loop[0][0]:
                told = carried_readers(loop, name)
                self.assertEqual(told, tuple(sorted(reader for one, reader in loop[1] if one == name)))
            for name in ("x", "abcdefgh"):
                with self.assertRaises(NoName) as caught:
                    carried_readers(loop, name)
                self.assertEqual(caught.exception.name, name)

    def test_awaited_in_rounds(self):
        for loop in loops() + [LONG]:
            told = {key for order in all_orders(loop[0])[:1] for key in waits_in_rounds(loop, order, 2)}
            self.assertEqual(awaited_in_rounds(loop), tuple(
                tuple(sorted(name for at, name in told if at == last)) for last in (0, 1)))

    def test_round_gap(self):
        for loop in loops() + [LONG]:
            for order in all_orders(loop[0])[::1 + len(all_orders(loop[0])) // 9]:
                gaps = gaps_in_rounds(loop, order, 3)
                for name in order:
                    self.assertEqual(round_gap(loop, order, name, False), gaps.get((0, name)))
                    self.assertEqual(round_gap(loop, order, name, False), gaps.get((1, name)))
                    self.assertEqual(round_gap(loop, order, name, True), gaps.get((2, name)))

    def test_joint_meeting(self):
        for loop in loops() + [LONG]:
            for order in all_orders(loop[0])[::1 + len(all_orders(loop[0])) // 9]:
                meets = meets_in_rounds(loop, order, 4)
                told = sorted((one, other) for (at, one), (later, other) in meets if (at, later) == (0, 1))
                self.assertEqual(joint_meeting(loop, order), tuple(told))
                # Those of rounds that do not stand beside one another never meet.
                self.assertLessEqual({later - at for (at, _), (later, _) in meets}, {0, 1})

    def test_first_round_reads_nothing_carried(self):
        block = ((("a", (), True),), ("a",))
        loop = (block, (("a", "a"),))
        self.assertEqual([rounds_end(loop, ("a",), (("a", 7),), rounds) for rounds in (1, 2, 3)], [7, 14, 21])
        self.assertEqual((round_gap(loop, ("a",), "a", False), round_gap(loop, ("a",), "a", True)), (0, 0))
        self.assertEqual((joint_meeting(loop, ("a",)), pace(loop, ("a",), (("a", 7),))), ((), (7, 1)))

    def test_empty(self):
        self.assertEqual((awaited_in_rounds(EMPTY), joint_meeting(EMPTY, ())), (((), ()), ()))
        self.assertEqual([rounds_end(EMPTY, (), (), rounds) for rounds in (1, 2, GREAT)], [0, 0, 0])
        self.assertEqual((pace(EMPTY, (), ()), first_later(EMPTY, (), ()), loop_slow_ones(EMPTY, (), ())),
                         ((0, 1), None, None))
        self.assertIs(loop_never_later(EMPTY, (), ()), True)
        self.assertIs(loop_alike(EMPTY, (), ()), True)
        self.assertEqual([loop_later_by(EMPTY, (), (), rounds) for rounds in (1, 2, 3, GREAT)], [0, 0, 0, 0])


class EndsTest(unittest.TestCase):
    def test_rounds_end(self):
        for turn, loop in enumerate(loops() + [LONG]):
            orders = all_orders(loop[0])
            for at, order in enumerate(orders[::1 + len(orders) // 4]):
                latencies = some_latencies(loop[0], turn + at)
                for rounds in (1, 2, 3, 4, 5, 9, 16):
                    told = end_in_rounds(loop, order, same_each_round(latencies, rounds), rounds)
                    self.assertEqual(rounds_end(loop, order, latencies, rounds), told)
                self.assertEqual(rounds_end(loop, order, latencies, 1), end_by_hand(loop[0], order, latencies))

    def test_all_small_latencies(self):
        for loop in (LOOP, BOTH, SELVES):
            for order in all_orders(loop[0]):
                for latencies in all_latencies(loop[0], 4):
                    for rounds in (2, 3, 7):
                        told = end_in_rounds(loop, order, same_each_round(latencies, rounds), rounds)
                        self.assertEqual(rounds_end(loop, order, latencies, rounds), told)

    def test_pace_and_great_numbers_of_rounds(self):
        # Behind the first rounds it goes on in the same way in as many rounds as a ring through them has.
        way = lcm(*range(1, 8))
        bottoms = set()
        for turn, loop in enumerate(loops() + [LONG, LONG]):
            orders = all_orders(loop[0])
            for at, order in enumerate(orders[::1 + len(orders) // 3]):
                latencies = some_latencies(loop[0], turn + at)
                top, bottom = pace(loop, order, latencies)
                self.assertTrue(bottom >= 1 and gcd(top, bottom) == 1)
                bottoms.add(bottom)
                for first in (way, way + 1, way + 5):
                    told = end_in_rounds(loop, order, same_each_round(latencies, first), first)
                    for more in (1, 3, GREAT):
                        self.assertEqual(rounds_end(loop, order, latencies, first + more * way) * bottom,
                                         told * bottom + more * way * top)
        self.assertLessEqual({1, 2}, bottoms)

    def test_pace_over_three_rounds(self):
        # c reads what a made in the round ahead, b what c did, and a what b did: in three rounds once around.
        loop = (((("a", (), True), ("b", (), True), ("c", (), True)), ()),
                (("a", "c"), ("b", "a"), ("b", "b"), ("c", "b")))
        order, latencies = ("a", "b", "c"), (("a", 20), ("b", 13), ("c", 13))
        self.assertEqual(pace(loop, order, latencies), (46, 3))
        ends = [end_in_rounds(loop, order, same_each_round(latencies, rounds), rounds) for rounds in (60, 63, 120)]
        self.assertEqual((ends[1] - ends[0], ends[2] - ends[0]), (46, 920))
        self.assertEqual([rounds_end(loop, order, latencies, rounds) for rounds in (60, 63, 120)], ends)

    def test_great_latencies(self):
        self.assertEqual(rounds_end(LOOP, SOON, (("a", GREAT),), 2), GREAT + 1)
        self.assertEqual(rounds_end(LOOP, SOON, (("a", GREAT),), 3), GREAT + 3)
        self.assertEqual(rounds_end(LOOP, SOON, (("a", GREAT),), 4), 2 * GREAT + 2)
        self.assertEqual(pace(LOOP, SOON, (("a", GREAT),)), (GREAT + 1, 2))
        self.assertEqual(pace(LOOP, SOON, (("a", GREAT - 1),)), (GREAT // 2, 1))
        self.assertEqual(rounds_end(LOOP, LATE, (("a", GREAT),), GREAT), GREAT * (GREAT + 1) - (GREAT - 1))


class PairTable:
    """A LOOP with two ORDERs, and by how much the one ends later than the other, for many latencies."""

    def __init__(self, loop, one, other, rounds, numbers):
        self.keys = [(at, name) for at in range(rounds) for name in slow_names(loop[0])]
        self.mores = {}
        for told in product(numbers, repeat=len(self.keys)):
            lasts = dict(zip(self.keys, told))
            slow = tuple(key for key in self.keys if lasts[key] > 1)
            more = end_in_rounds(loop, one, lasts, rounds) - end_in_rounds(loop, other, lasts, rounds)
            self.mores[slow] = max(more, self.mores.get(slow, more))

    def least(self):
        good = [slow for slow, more in self.mores.items() if more > 0]
        return min(good, key=lambda slow: (len(slow), slow), default=None)


def few_pairs():
    """Small LOOPs with pairs of their ORDERs, and numbers that show all that can be later."""
    for loop in [LOOP, BOTH] + loops()[5::4]:
        if len(slow_names(loop[0])) > 2 or len(loop[0][0]) > 4:
            continue
        orders = all_orders(loop[0])
        pairs = list(product(orders, repeat=2))
        for one, other in pairs[::1 + len(pairs) // 7]:
            yield loop, one, other


class NeverLaterTest(unittest.TestCase):
    def test_by_ends(self):
        seen = set()
        for loop, one, other in few_pairs():
            many = len(one)
            told = first_later(loop, one, other)
            found = None
            for rounds in (1, 2, 3):
                slow = len(slow_names(loop[0])) * rounds
                # No GAP is as great as two rounds.
                numbers = range(1, 2 * many + 2) if slow < 3 else (1, many + 1, 2 * many, 9 * many)
                table = PairTable(loop, one, other, rounds, numbers if slow < 6 else (1, 2 * many))
                if table.least() is not None:
                    found = rounds
                    self.assertEqual(loop_slow_ones(loop, one, other), table.least())
                    seen.add((rounds, len(table.least())))
                    break
            self.assertEqual(told, found)
            self.assertIs(loop_never_later(loop, one, other), found is None)
            if found is None:
                self.assertIsNone(loop_slow_ones(loop, one, other))
        self.assertLessEqual({(1, 1), (2, 1)}, seen)

    def test_by_gaps_and_meetings(self):
        seen = set()
        for loop in loops() + [LONG]:
            orders = all_orders(loop[0])
            pairs = list(product(orders, repeat=2))
            for one, other in pairs[::1 + len(pairs) // 40]:
                found = None
                for rounds in (1, 2, 3, 4, 5):
                    ours, theirs = gaps_in_rounds(loop, one, rounds), gaps_in_rounds(loop, other, rounds)
                    fewer = [(key,) for key in sorted(ours) if ours[key] < theirs[key]]
                    lost = sorted(meets_in_rounds(loop, other, rounds) - meets_in_rounds(loop, one, rounds))
                    if fewer or lost:
                        found = rounds
                        self.assertEqual(loop_slow_ones(loop, one, other), (fewer + lost)[0])
                        seen.add((rounds, len((fewer + lost)[0])))
                        break
                self.assertEqual(first_later(loop, one, other), found)
                self.assertIs(loop_never_later(loop, one, other), found is None)
                self.assertIs(loop_alike(loop, one, other), found is None and first_later(loop, other, one) is None)
        self.assertLessEqual({(1, 1), (2, 1)}, seen)

    def test_only_with_three(self):
        # All GAPs are the same, but a and b of the next round meet by the other one alone, and not in the last round.
        found = None
        block = ((("a", (), True), ("b", (), True), ("u", (), False), ("v", (), False)), ())
        loop = (block, (("a", "u"), ("b", "v")))
        for one, other in product(all_orders(block), repeat=2):
            if first_later(loop, one, other) == 3:
                found = one, other
                slow = loop_slow_ones(loop, one, other)
                self.assertEqual(len(slow), 2)
                for rounds, late in ((2, False), (3, True)):
                    lasts = {key: 50 for key in slow}
                    more = end_in_rounds(loop, one, lasts, rounds) - end_in_rounds(loop, other, lasts, rounds)
                    self.assertIs(more > 0, late)
                self.assertEqual((loop_later_by(loop, one, other, 2), loop_later_by(loop, one, other, 3)), (0, None))
        self.assertIsNotNone(found)

    def test_alike(self):
        self.assertIs(loop_alike(BOTH, ("a", "b", "u"), ("a", "b", "u")), True)
        self.assertIs(loop_alike(LOOP, LATE, SOON), False)
        block = ((("a", (), False), ("b", (), False)), ())
        self.assertIs(loop_alike((block, (("a", "b"),)), ("a", "b"), ("b", "a")), True)


class LaterByTest(unittest.TestCase):
    def test_by_sums(self):
        seen = set()
        for loop in loops():
            orders = all_orders(loop[0])
            pairs = list(product(orders, repeat=2))
            for one, other in pairs[::1 + len(pairs) // 9]:
                for rounds in (1, 2, 3, 4):
                    if len(waits_in_rounds(loop, one, rounds)) > 8:
                        continue
                    told = loop_later_by(loop, one, other, rounds)
                    lost = meets_in_rounds(loop, other, rounds) - meets_in_rounds(loop, one, rounds)
                    self.assertEqual(told is None, bool(lost))
                    if told is not None:
                        ours, theirs = gaps_in_rounds(loop, one, rounds), gaps_in_rounds(loop, other, rounds)
                        self.assertEqual(told, max(sum(theirs[key] - ours[key] for key in some)
                                                   for some in sums_in_rounds(loop, one, rounds)))
                    seen.add(told)
        self.assertLessEqual({None, 0, 1, 2}, seen)

    def test_by_ends(self):
        for loop, one, other in few_pairs():
            for rounds in (1, 2, 3):
                if len(slow_names(loop[0])) * rounds > 3:
                    continue
                table = PairTable(loop, one, other, rounds, range(1, 2 * len(one) + 1))
                told = loop_later_by(loop, one, other, rounds)
                if told is not None:
                    self.assertEqual(told, max(table.mores.values()))
                else:
                    far = PairTable(loop, one, other, rounds, (1, 99))
                    self.assertGreater(max(far.mores.values()), 50)

    def test_great_numbers_of_rounds(self):
        # Each round by itself adds to it.
        loop = (WIDE, ())
        close, far = ("a", "b", "u", "v"), ("a", "b", "v", "u")
        self.assertEqual([loop_later_by(loop, close, far, rounds) for rounds in (1, 2, 3, 7, GREAT)],
                         [1, 2, 3, 7, GREAT])
        self.assertEqual(loop_later_by(LOOP, SOON, LATE, GREAT), 0)
        self.assertIsNone(loop_later_by(LOOP, LATE, SOON, GREAT))
        self.assertIs(first_later(loop, close, far), 1)

    def test_it_grows_evenly(self):
        way = lcm(*range(1, 8))
        seen = set()
        for loop in loops()[::2] + [LONG]:
            orders = all_orders(loop[0])
            pairs = list(product(orders, repeat=2))
            for one, other in pairs[3::1 + len(pairs) // 4]:
                told = [loop_later_by(loop, one, other, rounds) for rounds in (way, 2 * way, 3 * way, GREAT * way)]
                if told[0] is None:
                    self.assertEqual(told, [None] * 4)
                    continue
                self.assertEqual(told[2] - told[1], told[1] - told[0])
                self.assertEqual(told[3], told[0] + (GREAT - 1) * (told[1] - told[0]))
                seen.add(told[1] > told[0])
        self.assertEqual(seen, {True, False})

    def test_last_round_counts_by_itself(self):
        # a is read, carried, by v, and wanted in the end: its GAP is another one in the last round.
        loop = (((("a", (), True), ("q", (), False), ("v", (), False)), ("a",)), (("a", "v"),))
        one, other = ("q", "v", "a"), ("a", "v", "q")
        self.assertEqual([round_gap(loop, order, "a", last) for order in (one, other) for last in (False, True)],
                         [1, 0, 3, 2])
        self.assertEqual([loop_later_by(loop, one, other, rounds) for rounds in (1, 2)], [2, None])
        third = ("v", "q", "a")
        self.assertEqual([round_gap(loop, third, "a", last) for last in (False, True)], [0, 0])
        self.assertEqual([loop_later_by(loop, third, one, rounds) for rounds in (1, 2, 3, 9, GREAT)],
                         [0, 1, 2, 8, GREAT - 1])


class RefusedTest(unittest.TestCase):
    def test_no_order(self):
        for order in ((), ("b", "a", "a"), ("u", "a", "b"), ("a", "b"), ("a", "b", "u", "u"), ["a", "u", "b"], ("a", "b", "x")):
            for last in (True, False):
                self.assertRaises(NoOrder, round_gap, BOTH, order, "x", last)
            self.assertRaises(NoOrder, joint_meeting, BOTH, order)
            self.assertRaises(NoOrder, rounds_end, BOTH, order, (("a", 1), ("b", 1)), 3)
            self.assertRaises(NoOrder, pace, BOTH, order, (("a", 1), ("b", 1)))
            for pair in ((order, ("a", "b", "u")), (("a", "b", "u"), order)):
                for ask in (loop_never_later, loop_alike, first_later, loop_slow_ones):
                    self.assertRaises(NoOrder, ask, BOTH, *pair)
                for rounds in (1, 2, 3, GREAT):
                    self.assertRaises(NoOrder, loop_later_by, BOTH, *pair, rounds)

    def test_no_name(self):
        for last in (True, False):
            with self.assertRaises(NoName) as caught:
                round_gap(BOTH, ("a", "b", "u"), "x", last)
            self.assertEqual(caught.exception.name, "x")

    def test_lists(self):
        given = listed(BOTH)
        self.assertEqual(joint_meeting(given, ["a", "b", "u"]), (("a", "a"), ("a", "b")))
        self.assertEqual(loop_slow_ones(given, ["b", "u", "a"], ["a", "b", "u"]), ((0, "a"),))
        self.assertFalse(has_list(awaited_in_rounds(given)) or has_list(joint_meeting(given, ["a", "b", "u"])))
        self.assertEqual(rounds_end(given, ["a", "b", "u"], [["a", 5], ["b", 2]], 9),
                         rounds_end(BOTH, ("a", "b", "u"), (("a", 5), ("b", 2)), 9))


if __name__ == "__main__":
    unittest.main()
