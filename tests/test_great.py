"""[14]: great rows."""

import unittest
from itertools import combinations, product

from anylatency.errors import OtherNames
from anylatency.great import (is_long, long_end, long_gaps, long_later_by, long_meeting, long_most, long_never_later)
from anylatency.never import later_by, never_later
from tests.small import (STRANGE, WIDE, ROOMY, MIXED, all_orders, all_sets, end_by_hand, few_blocks, gaps_by_hand,
                         has_list, listed, meeting_by_hand, some_blocks, some_latencies, turns, waits_by_hand)

GREAT = 10 ** 40
NAMES = tuple("abcdefghijklmnopqrstuvwx")


def long_of(block, order, times=1):
    """The LONG of this ORDER, with so many places for each of its own."""
    waits = waits_by_hand(block, order)
    return len(order) * times, tuple((name, place * times, reader * times)
                                     for name, (place, reader) in sorted(waits.items()))


def longs(many, slow):
    """All LONGs of so many instructions with these slow ones."""
    spans = [(place, reader) for place in range(many) for reader in range(place + 1, many + 1)]
    for told in product(spans, repeat=len(slow)):
        if len({place for place, _ in told}) == len(told):
            yield many, tuple((name, place, reader) for name, (place, reader) in zip(slow, told))


def end_by_sums(long, latencies):
    """The END, told by going through all sets that add up."""
    stalls = {name: number - 1 for name, number in latencies}
    spans = {name: (place, reader) for name, place, reader in long[1]}
    best = 0
    for some in all_sets(spans):
        if all(spans[one][0] >= spans[other][1] or spans[other][0] >= spans[one][1]
               for one, other in combinations(some, 2)):
            best = max(best, sum(stalls[name] - (spans[name][1] - spans[name][0] - 1) for name in some))
    return long[0] + best


def end_by_ticks(long, latencies):
    """The END, told by going through the row."""
    lasts = dict(latencies)
    begins = {place: name for name, place, _ in long[1]}
    ends = {}
    comes = {}
    for name, _, reader in long[1]:
        ends.setdefault(reader, []).append(name)
    tick = 0
    for place in range(long[0] + 1):
        tick = max([tick] + [comes[name] for name in ends.get(place, ())])
        if place in begins:
            comes[begins[place]] = tick + lasts[begins[place]]
        tick += 1
    return tick - 1


class LongsTest(unittest.TestCase):
    def test_is_long(self):
        for long in [(0, ()), (GREAT, ()), (3, (("a", 0, 3),)), (3, (("a", 2, 3), ("b", 0, 1))),
                     (GREAT, (("a", 0, GREAT), ("b", GREAT - 1, GREAT)))]:
            self.assertIs(is_long(long), True)
            self.assertIs(is_long(list(long)), False)
            self.assertIs(is_long((long[0], list(long[1]))), False)
            self.assertIs(is_long(long + ((),)), False)
            self.assertIs(is_long(long[:1]), False)
            self.assertIs(is_long((long[0] + 1, long[1])), True)
            self.assertIs(is_long((-1, long[1])), False)
            if long[1]:
                self.assertIs(is_long((long[0], (list(long[1][0]),) + long[1][1:])), False)
                self.assertIs(is_long((long[0], long[1] + long[1][:1])), False)
        for waits in ((("a", 0, 4),), (("a", 3, 4),), (("a", -1, 2),), (("a", 1, 1),), (("a", 2, 1),),
                      (("b", 0, 1), ("a", 1, 2)), (("a", 0, 1), ("a", 1, 2)), (("a", 0, 1), ("b", 0, 2)),
                      (("a", 0),), (("a", 0, 1, 2),), (("A", 0, 1),), (("", 0, 1),), (("abcdefghi", 0, 1),),
                      ((1, 0, 1),), (("a", True, 2),), (("a", 0, True),), (("a", None, 2),), (("a", "0", 2),),
                      (("a", 0, [1]),), ("a01",), (("a", 0, 1), None), [("a", 0, 1)], (["a", 0, 1],), None, "a", 3):
            with self.subTest(waits=waits):
                self.assertIs(is_long((3, waits)), False)
        for many in (True, None, "3", (3,), [3], -GREAT):
            self.assertIs(is_long((many, ())), False)

    def test_strange_things(self):
        for thing in STRANGE:
            with self.subTest(thing=thing):
                self.assertIs(is_long(thing), False)
                self.assertIs(is_long((9, thing)), False)
                self.assertIs(is_long((9, (thing,))), False)
                self.assertIs(is_long((thing, ())), thing in (0, 1, GREAT) and not isinstance(thing, bool))

    def test_more_than_24(self):
        many = tuple((one + other, 26 * at + place, 999) for at, one in enumerate("abcdefghij")
                     for place, other in enumerate("abcdefghij"))
        self.assertIs(is_long((999, many)), True)
        self.assertIs(is_long((999, many[::-1])), False)

    def test_as_in_blocks(self):
        for turn, block in enumerate(few_blocks() + [WIDE, ROOMY, MIXED] + some_blocks()[70::9]):
            orders = all_orders(block)
            for order in orders[::1 + len(orders) // 6]:
                long = long_of(block, order)
                self.assertIs(is_long(long), True)
                self.assertEqual(long_gaps(long), tuple(sorted(gaps_by_hand(block, order).items())))
                self.assertEqual(long_meeting(long), tuple(meeting_by_hand(block, order)))
                latencies = some_latencies(block, turn)
                waited = tuple(pair for pair in latencies if pair[0] in waits_by_hand(block, order))
                self.assertEqual(long_end(long, waited), end_by_hand(block, order, latencies))

    def test_end(self):
        for long in list(longs(4, "ab")) + list(longs(4, "abc"))[::3]:
            slow = [name for name, _, _ in long[1]]
            for told in product((1, 2, 4), repeat=len(slow)):
                latencies = tuple(zip(slow, told))
                self.assertEqual(long_end(long, latencies), end_by_sums(long, latencies))
                self.assertEqual(long_end(long, latencies), end_by_ticks(long, latencies))

    def test_most(self):
        for long in list(longs(4, "ab")) + list(longs(5, "abc"))[::5] + [(0, ()), (7, ())]:
            at_places = [len([1 for _, at, reader in long[1] if at <= place < reader]) for place in range(long[0])]
            self.assertEqual(long_most(long), max(at_places, default=0))

    def test_24_by_ticks(self):
        told = turns(5)
        for _ in range(60):
            places = sorted({next(told) % 90 for _ in range(60)})[:24]
            waits = tuple(sorted((name, place, min(90, place + 1 + next(told) % 30))
                                 for name, place in zip(NAMES[5:] + NAMES[:5], places)))
            long = (90, waits)
            self.assertIs(is_long(long), True)
            latencies = tuple((name, 1 + next(told) % 40) for name, _, _ in waits)
            self.assertEqual(long_end(long, latencies), end_by_ticks(long, latencies))
            at_places = [len([1 for _, at, reader in waits if at <= place < reader]) for place in range(90)]
            self.assertEqual(long_most(long), max(at_places))

    def test_great_ones(self):
        # Each begins where that ahead of it ends; all of them together count.
        row = (24 * GREAT, tuple((name, at * GREAT, (at + 1) * GREAT) for at, name in enumerate(NAMES)))
        lasts = tuple((name, 2 * GREAT) for name in NAMES)
        self.assertEqual(long_end(row, lasts), 48 * GREAT)
        self.assertEqual((long_meeting(row), long_most(row)), ((), 1))
        self.assertEqual(long_end(row, tuple((name, GREAT) for name in NAMES)), 24 * GREAT)
        # All wait at once, up to the end; the greatest one alone counts.
        wide = (GREAT, tuple((name, at, GREAT) for at, name in enumerate(NAMES)))
        self.assertEqual(long_meeting(wide), tuple(combinations(NAMES, 2)))
        self.assertEqual(long_most(wide), 24)
        self.assertEqual(long_end(wide, tuple((name, GREAT + 7) for name in NAMES)), GREAT + 7 + 23)
        self.assertEqual(long_gaps(wide), tuple((name, GREAT - 1 - at) for at, name in enumerate(NAMES)))

    def test_none(self):
        for many in (0, 1, GREAT):
            long = (many, ())
            self.assertEqual((long_gaps(long), long_meeting(long), long_most(long)), ((), (), 0))
            self.assertEqual((long_end(long, ()), long_later_by(long, long)), (many, 0))
            self.assertIs(long_never_later(long, long), True)


class NeverLaterTest(unittest.TestCase):
    def test_as_in_blocks(self):
        for block in few_blocks() + [WIDE, ROOMY]:
            orders = all_orders(block)
            for one, other in list(product(orders, repeat=2))[::1 + len(orders) ** 2 // 60]:
                ours, theirs = long_of(block, one), long_of(block, other)
                self.assertIs(long_never_later(ours, theirs), never_later(block, one, other))
                self.assertEqual(long_later_by(ours, theirs), later_by(block, one, other))

    def test_by_ends(self):
        every = list(longs(4, "ab"))
        for one, other in list(product(every, repeat=2))[::7]:
            mores = [end_by_ticks(one, told) - end_by_ticks(other, told)
                     for told in [(("a", a), ("b", b)) for a, b in product(range(1, 10), repeat=2)]]
            told = long_later_by(one, other)
            if told is None:
                self.assertGreaterEqual(max(mores), 2)
                far = (("a", GREAT), ("b", GREAT))
                self.assertGreater(end_by_sums(one, far) - end_by_sums(other, far), GREAT // 2)
            else:
                self.assertEqual(told, max(mores))
            self.assertIs(long_never_later(one, other), max(mores) <= 0)

    def test_three_by_sums(self):
        every = list(longs(5, "abc"))
        seen = set()
        for one, other in zip(every[::11], every[5::17] + every[::13]):
            told = long_later_by(one, other)
            lost = set(long_meeting(other)) - set(long_meeting(one))
            self.assertEqual(told is None, bool(lost))
            if told is not None:
                gaps = dict(long_gaps(other))
                latencies = tuple((name, gaps[name] + 1) for name in gaps)
                self.assertEqual(told, end_by_ticks(one, latencies) - end_by_ticks(other, latencies))
                self.assertIs(long_never_later(one, other), told == 0)
            seen.add(told)
        self.assertLessEqual({None, 0, 1, 2}, seen)

    def test_great_ones(self):
        late = (24 * GREAT, tuple((name, at * GREAT, at * GREAT + 1) for at, name in enumerate(NAMES)))
        soon = (24 * GREAT, tuple((name, at * GREAT, (at + 1) * GREAT) for at, name in enumerate(NAMES)))
        self.assertEqual((long_later_by(late, soon), long_later_by(soon, late)), (24 * (GREAT - 1), 0))
        self.assertEqual((long_never_later(late, soon), long_never_later(soon, late)), (False, True))
        joined = (24 * GREAT, (("a", 0, GREAT + 1),) + soon[1][1:])
        self.assertEqual((long_later_by(soon, joined), long_later_by(joined, soon)), (None, 0))

    def test_other_names(self):
        for one, other in (((9, ()), (8, ())), ((9, (("a", 0, 1),)), (9, ())), ((9, ()), (9, (("a", 0, 1),))),
                           ((9, (("a", 0, 1),)), (9, (("b", 0, 1),))), ((9, (("a", 0, 1),)), (10, (("a", 0, 1),))),
                           ((9, (("a", 0, 1),)), (9, (("a", 0, 1), ("b", 1, 2)))),
                           ((GREAT, ()), [GREAT + 1, []])):
            for ask in (long_never_later, long_later_by):
                self.assertRaises(OtherNames, ask, one, other)
                self.assertRaises(OtherNames, ask, other, one)

    def test_lists(self):
        one, other = (9, (("a", 0, 2), ("b", 3, 4))), (9, (("a", 0, 4), ("b", 5, 9)))
        self.assertEqual(long_later_by(listed(one), listed(other)), 5)
        self.assertEqual(long_later_by(listed(one), other), 5)
        self.assertEqual(long_end(listed(one), [["a", 4], ["b", 2]]), long_end(one, (("a", 4), ("b", 2))))
        self.assertFalse(has_list(long_gaps(listed(one))) or has_list(long_meeting(listed(one))))


if __name__ == "__main__":
    unittest.main()
