"""[2]: lists for tuples, calls by names, unchanged arguments, new lists, the same answers again."""

import inspect
import unittest
from copy import deepcopy

from anylatency import (apart, best, blocks, board, desk, ends, great, issue, loops, moves, never, texts, told,
                        waits)
from anylatency.errors import BadLine, BadText, Needs, NoName, NoNumber, NoOrder, OtherNames, Twice
from tests.small import has_list, listed

BLOCK = ((("a", (), True), ("b", (), True), ("u", ("a", "b"), False), ("v", ("b",), False)), ("u", "v"))
ORDER, WRONG = ("a", "b", "u", "v"), ("u", "a", "b", "v")
TOLD = (("a", 3), ("b", 10 ** 40))
OTHER, ONES, TOPS = ("b", "v", "a", "u"), (("a", 1), ("b", 1)), (("a", 3), ("b", 0))
PAIRS, RING = (("v", "a"), ("a", "b")), ("u", "v")
HELD = ((("a", (), True), ("b", (), True), ("u", ("a", "b"), False), ("v", ("b", "u"), True)), ("u", "v"))
KEY = ((("a", 1), ("b", 0)), (("a", "b"),))
LOOP = (BLOCK, (("a", "u"), ("b", "b"), ("b", "v")))
READINGS = ((ONES, 4), ((("a", 3), ("b", 2)), 5))
SOON, LATE = (9, (("a", 0, 4), ("b", 5, 9))), (9, (("a", 0, 2), ("b", 3, 4)))
TEXT = "block a*; b*; u a b; v b | u v"
MADE = texts.board_in(TEXT + "\nknown a=7\none: b v a u\ntwo: a b u v\none from * .. a b u v\nend")

# Each function of the interface with the names of what it takes; thing is never handed in as a list.
CALLS = (
    (blocks.is_block, ("thing",), (BLOCK,)),
    (blocks.names_in, ("block",), (BLOCK,)),
    (blocks.reads_of, ("block", "name"), (BLOCK, "u")),
    (blocks.readers_of, ("block", "name"), (BLOCK, "b")),
    (blocks.needs_of, ("block", "name"), (BLOCK, "u")),
    (blocks.needed_by, ("block", "name"), (BLOCK, "b")),
    (blocks.slow_in, ("block",), (BLOCK,)),
    (blocks.awaited_in, ("block",), (BLOCK,)),
    (blocks.is_order, ("block", "thing"), (BLOCK, ORDER)),
    (blocks.least_order, ("block",), (BLOCK,)),
    (blocks.how_many_orders, ("block",), (BLOCK,)),
    (blocks.order_at, ("block", "number"), (BLOCK, 3)),
    (blocks.number_of_order, ("block", "order"), (BLOCK, ORDER)),
    (blocks.with_row, ("block", "row"), (BLOCK, ("v", ("a", "u"), True))),
    (blocks.without, ("block", "name"), (BLOCK, "b")),
    (blocks.made_slow, ("block", "some"), (BLOCK, ("a", "v"))),
    (blocks.made_quick, ("block", "some"), (BLOCK, ("a", "v"))),
    (blocks.with_live, ("block", "some"), (BLOCK, ("a", "b"))),
    (blocks.renamed, ("block", "pairs"), (BLOCK, (("u", "b"), ("b", "u")))),
    (issue.is_latencies, ("block", "thing"), (BLOCK, TOLD)),
    (issue.latencies_of, ("block", "pairs"), (BLOCK, TOLD[::-1])),
    (issue.issue_ticks, ("block", "order", "latencies"), (BLOCK, ORDER, TOLD)),
    (issue.come_ticks, ("block", "order", "latencies"), (BLOCK, ORDER, TOLD)),
    (issue.end_of, ("block", "order", "latencies"), (BLOCK, ORDER, TOLD)),
    (issue.idle_stretches, ("block", "order", "latencies"), (BLOCK, ORDER, TOLD)),
    (issue.how_many_idle, ("block", "order", "latencies"), (BLOCK, ORDER, TOLD)),
    (issue.held_up, ("block", "order", "latencies"), (BLOCK, ORDER, TOLD)),
    (issue.issued_at, ("block", "order", "latencies", "tick"), (BLOCK, ORDER, TOLD, 1)),
    (issue.on_way, ("block", "order", "latencies", "tick"), (BLOCK, ORDER, TOLD, 1)),
    (issue.most_on_way, ("block", "order", "latencies"), (BLOCK, ORDER, TOLD)),
    (issue.slack_of, ("block", "order", "latencies", "name"), (BLOCK, ORDER, TOLD, "a")),
    (issue.quickest_order, ("block", "latencies"), (BLOCK, TOLD)),
    (waits.first_reader, ("block", "order", "name"), (BLOCK, ORDER, "b")),
    (waits.wait_of, ("block", "order", "name"), (BLOCK, ORDER, "b")),
    (waits.gap_of, ("block", "order", "name"), (BLOCK, ORDER, "a")),
    (waits.gaps, ("block", "order"), (BLOCK, ORDER)),
    (waits.meets, ("block", "order", "one", "other"), (BLOCK, ORDER, "b", "a")),
    (waits.meeting, ("block", "order"), (BLOCK, ORDER)),
    (waits.adds_up, ("block", "order", "some"), (BLOCK, OTHER, ("a", "b"))),
    (waits.adding, ("block", "order"), (BLOCK, OTHER)),
    (waits.how_many_adding, ("block", "order"), (BLOCK, OTHER)),
    (waits.most_adding, ("block", "order"), (BLOCK, ORDER)),
    (waits.is_most_adding, ("block", "order", "thing"), (BLOCK, ORDER, ("b",))),
    (waits.at_once, ("block", "order", "place"), (BLOCK, ORDER, 1)),
    (waits.most_at_once, ("block", "order"), (BLOCK, ORDER)),
    (waits.parted, ("block", "order"), (BLOCK, ORDER)),
    (waits.is_parted, ("block", "order", "thing"), (BLOCK, ORDER, (("b",), ("a",)))),
    (ends.end_from, ("block", "order", "latencies", "some"), (BLOCK, OTHER, TOLD, ("a", "b"))),
    (ends.makers, ("block", "order", "latencies"), (BLOCK, OTHER, ONES)),
    (ends.maker, ("block", "order", "latencies"), (BLOCK, OTHER, ONES)),
    (ends.is_maker, ("block", "order", "latencies", "thing"), (BLOCK, OTHER, ONES, ("a", "b"))),
    (ends.which_matter, ("block", "order", "latencies"), (BLOCK, OTHER, ONES)),
    (ends.which_hold, ("block", "order", "latencies"), (BLOCK, OTHER, TOLD)),
    (ends.end_range, ("block", "order", "low", "high"), (BLOCK, ORDER, ONES, TOLD)),
    (ends.worth, ("block", "order", "latencies", "name"), (BLOCK, ORDER, TOLD, "b")),
    (ends.fewest_quick, ("block", "order", "latencies", "end"), (BLOCK, ORDER, TOLD, 5)),
    (ends.latencies_reaching, ("block", "order", "end"), (BLOCK, ORDER, 10 ** 40)),
    (never.never_later, ("block", "one", "other"), (BLOCK, ORDER, OTHER)),
    (never.alike, ("block", "one", "other"), (BLOCK, ORDER, ORDER)),
    (never.compare, ("block", "one", "other"), (BLOCK, ORDER, OTHER)),
    (never.slow_ones, ("block", "one", "other"), (BLOCK, OTHER, ORDER)),
    (never.gap_changes, ("block", "one", "other"), (BLOCK, OTHER, ORDER)),
    (never.meet_changes, ("block", "one", "other"), (BLOCK, OTHER, ORDER)),
    (never.later_by, ("block", "one", "other"), (BLOCK, ORDER, OTHER)),
    (never.latencies_later, ("block", "one", "other", "number"), (BLOCK, OTHER, ORDER, 10 ** 40)),
    (never.is_latencies_later, ("block", "one", "other", "number", "thing"), (BLOCK, OTHER, ORDER, 1, TOLD)),
    (never.later_by_within, ("block", "one", "other", "tops"), (BLOCK, OTHER, ORDER, TOPS)),
    (never.never_later_within, ("block", "one", "other", "tops"), (BLOCK, OTHER, ORDER, TOPS)),
    (never.worst_set, ("block", "one", "other", "tops"), (BLOCK, OTHER, ORDER, TOPS)),
    (never.safe_top, ("block", "one", "other"), (BLOCK, OTHER, ORDER)),
    (moves.exchanged, ("block", "order", "place"), (BLOCK, OTHER, 1)),
    (moves.effect, ("block", "order", "place"), (BLOCK, OTHER, 1)),
    (moves.gap_effects, ("block", "order", "place"), (BLOCK, OTHER, 1)),
    (moves.free_places, ("block", "order"), (BLOCK, OTHER)),
    (moves.better_places, ("block", "order"), (BLOCK, OTHER)),
    (moves.climbed, ("block", "order"), (BLOCK, OTHER)),
    (moves.moved, ("block", "order", "name", "place"), (BLOCK, OTHER, "a", 0)),
    (moves.places_for, ("block", "order", "name"), (BLOCK, OTHER, "a")),
    (moves.free_for, ("block", "order", "name"), (BLOCK, OTHER, "a")),
    (moves.free_way, ("block", "one", "other"), (BLOCK, OTHER, ("b", "a", "v", "u"))),
    (moves.fewest_free, ("block", "one", "other"), (BLOCK, OTHER, ("b", "a", "v", "u"))),
    (moves.is_free_way, ("block", "one", "other", "thing"), (BLOCK, OTHER, ("b", "a", "v", "u"), (1,))),
    (moves.paused, ("block", "order", "name", "place"), (BLOCK, ORDER, "n", 2)),
    (moves.hidden_under, ("block", "order", "place"), (BLOCK, ORDER, 2)),
    (moves.pause_cost, ("block", "order", "place", "latencies"), (BLOCK, ORDER, 2, TOLD)),
    (apart.greatest_gap, ("block", "name"), (BLOCK, "b")),
    (apart.order_with_gap, ("block", "name", "gap"), (BLOCK, "a", 1)),
    (apart.is_order_with_gap, ("block", "name", "gap", "thing"), (BLOCK, "a", 1, ORDER)),
    (apart.can_meet, ("block", "one", "other"), (BLOCK, "b", "a")),
    (apart.can_part, ("block", "one", "other"), (BLOCK, "b", "a")),
    (apart.meetable, ("block",), (BLOCK,)),
    (apart.always_meeting, ("block",), (BLOCK,)),
    (apart.can_all_meet, ("block", "pairs"), (HELD, PAIRS)),
    (apart.order_meeting, ("block", "pairs"), (HELD, PAIRS[1:])),
    (apart.is_order_meeting, ("block", "pairs", "thing"), (HELD, PAIRS[1:], ORDER)),
    (apart.how_many_meeting, ("block", "pairs"), (HELD, PAIRS[1:])),
    (apart.ring_of, ("block", "pairs"), (HELD, PAIRS)),
    (apart.is_ring, ("block", "pairs", "thing"), (HELD, PAIRS, RING)),
    (apart.great_meetings, ("block",), (BLOCK,)),
    (best.key_of, ("block", "order"), (BLOCK, ORDER)),
    (best.classes, ("block",), (BLOCK,)),
    (best.orders_of, ("block", "key"), (BLOCK, KEY)),
    (best.how_many_in, ("block", "key"), (BLOCK, KEY)),
    (best.never_beaten, ("block",), (BLOCK,)),
    (best.is_never_beaten, ("block", "order"), (BLOCK, ORDER)),
    (best.beaten_by, ("block", "order"), (BLOCK, OTHER)),
    (best.is_beaten_by, ("block", "order", "thing"), (BLOCK, OTHER, ("b", "a", "v", "u"))),
    (best.best, ("block",), (BLOCK,)),
    (best.is_best, ("block", "thing"), (((("a", (), True),), ("a",)), ("a",))),
    (best.regret, ("block", "order"), (BLOCK, ORDER)),
    (best.least_regret, ("block",), (BLOCK,)),
    (best.calmest, ("block",), (BLOCK,)),
    (best.is_calmest, ("block", "thing"), (BLOCK, ORDER)),
    (best.safest_gap, ("block",), (BLOCK,)),
    (best.safest, ("block",), (BLOCK,)),
    (best.is_safest, ("block", "thing"), (BLOCK, ("b", "a", "v", "u"))),
    (loops.is_loop, ("thing",), (LOOP,)),
    (loops.carried_readers, ("loop", "name"), (LOOP, "b")),
    (loops.awaited_in_rounds, ("loop",), (LOOP,)),
    (loops.round_gap, ("loop", "order", "name", "last"), (LOOP, ORDER, "b", False)),
    (loops.joint_meeting, ("loop", "order"), (LOOP, ORDER)),
    (loops.rounds_end, ("loop", "order", "latencies", "rounds"), (LOOP, ORDER, TOLD, 10 ** 40)),
    (loops.pace, ("loop", "order", "latencies"), (LOOP, ORDER, TOLD)),
    (loops.first_later, ("loop", "one", "other"), (LOOP, OTHER, ORDER)),
    (loops.loop_never_later, ("loop", "one", "other"), (LOOP, ORDER, OTHER)),
    (loops.loop_alike, ("loop", "one", "other"), (LOOP, ORDER, OTHER)),
    (loops.loop_slow_ones, ("loop", "one", "other"), (LOOP, OTHER, ORDER)),
    (loops.loop_later_by, ("loop", "one", "other", "rounds"), (LOOP, ORDER, OTHER, 10 ** 40)),
    (told.is_readings, ("block", "thing"), (BLOCK, READINGS)),
    (told.fits_readings, ("block", "order", "readings"), (BLOCK, ORDER, READINGS)),
    (told.orders_that_fit, ("block", "readings"), (BLOCK, READINGS)),
    (told.keys_that_fit, ("block", "readings"), (BLOCK, READINGS)),
    (told.known_gaps, ("block", "readings"), (BLOCK, READINGS)),
    (told.sure_meets, ("block", "readings"), (BLOCK, READINGS)),
    (told.next_ends, ("block", "readings", "latencies"), (BLOCK, READINGS, TOLD)),
    (told.first_misfit, ("block", "readings"), (BLOCK, READINGS + ((ONES, 5),))),
    (told.best_ask, ("block", "readings", "asks"), (BLOCK, READINGS, (ONES, TOLD))),
    (told.gap_ask, ("block", "name"), (BLOCK, "b")),
    (told.pair_ask, ("block", "one", "other"), (BLOCK, "b", "a")),
    (told.told_back, ("block", "asker"), (BLOCK, lambda latencies: issue.end_of(BLOCK, OTHER, latencies))),
    (great.is_long, ("thing",), (SOON,)),
    (great.long_gaps, ("long",), (SOON,)),
    (great.long_meeting, ("long",), (SOON,)),
    (great.long_most, ("long",), (SOON,)),
    (great.long_end, ("long", "latencies"), (SOON, TOLD)),
    (great.long_never_later, ("one", "other"), (SOON, LATE)),
    (great.long_later_by, ("one", "other"), (LATE, SOON)),
    (texts.block_text, ("block",), (BLOCK,)),
    (texts.block_in, ("text",), (TEXT[6:],)),
    (texts.board_text, ("board",), (MADE,)),
    (desk.answers, ("text",), (TEXT + "\norder one a b u v\nend one\nabove one",)),
)

# The functions that give a list; what others give, and what stands in these lists, are tuples all the way down.
GIVE_LISTS = ("adding", "makers", "great_meetings", "classes", "orders_of", "never_beaten", "orders_that_fit",
              "keys_that_fit", "next_ends", "answers")

REFUSED = (
    (blocks.reads_of, (BLOCK, "x"), NoName, {"name": "x"}),
    (blocks.order_at, (BLOCK, 99), NoNumber, {"number": 99}),
    (blocks.number_of_order, (BLOCK, WRONG), NoOrder, {}),
    (blocks.with_row, (BLOCK, ("a", ("u", "x"), True)), NoName, {"name": "x"}),
    (blocks.with_row, (BLOCK, ("a", ("u",), True)), Needs, {}),
    (blocks.made_slow, (BLOCK, ("a", "x", "y")), NoName, {"name": "x"}),
    (blocks.renamed, (BLOCK, (("x", "a"), ("a", "b"))), NoName, {"name": "x"}),
    (blocks.renamed, (BLOCK, (("a", "b"),)), Twice, {"name": "b"}),
    (issue.latencies_of, (BLOCK, (("v", 2), ("a", 3))), NoName, {"name": "v"}),
    (issue.end_of, (BLOCK, WRONG, TOLD), NoOrder, {}),
    (issue.slack_of, (BLOCK, WRONG, TOLD, "x"), NoOrder, {}),
    (issue.slack_of, (BLOCK, ORDER, TOLD, "u"), NoName, {"name": "u"}),
    (waits.gap_of, (BLOCK, WRONG, "x"), NoOrder, {}),
    (waits.gap_of, (BLOCK, ORDER, "x"), NoName, {"name": "x"}),
    (waits.adds_up, (BLOCK, ORDER, ("a", "x", "y")), NoName, {"name": "x"}),
    (ends.end_from, (BLOCK, WRONG, TOLD, ("x",)), NoOrder, {}),
    (ends.end_from, (BLOCK, ORDER, TOLD, ("b", "x")), NoName, {"name": "x"}),
    (ends.worth, (BLOCK, ORDER, TOLD, "x"), NoName, {"name": "x"}),
    (never.compare, (BLOCK, ORDER, WRONG), NoOrder, {}),
    (moves.exchanged, (BLOCK, ORDER, 3), NoNumber, {"number": 3}),
    (moves.exchanged, (BLOCK, ORDER, 1), Needs, {}),
    (moves.moved, (BLOCK, ORDER, "x", 9), NoName, {"name": "x"}),
    (moves.moved, (BLOCK, ORDER, "u", 0), Needs, {}),
    (moves.paused, (BLOCK, ORDER, "u", 9), Twice, {"name": "u"}),
    (moves.pause_cost, (BLOCK, ORDER, 9, TOLD), NoNumber, {"number": 9}),
    (apart.greatest_gap, (BLOCK, "x"), NoName, {"name": "x"}),
    (apart.order_with_gap, (BLOCK, "x", 0), NoName, {"name": "x"}),
    (apart.can_meet, (BLOCK, "a", "x"), NoName, {"name": "x"}),
    (apart.can_part, (BLOCK, "y", "x"), NoName, {"name": "y"}),
    (best.key_of, (BLOCK, WRONG), NoOrder, {}),
    (best.regret, (BLOCK, WRONG), NoOrder, {}),
    (best.beaten_by, (BLOCK, WRONG), NoOrder, {}),
    (loops.carried_readers, (LOOP, "x"), NoName, {"name": "x"}),
    (loops.round_gap, (LOOP, WRONG, "x", True), NoOrder, {}),
    (loops.round_gap, (LOOP, ORDER, "x", True), NoName, {"name": "x"}),
    (loops.rounds_end, (LOOP, WRONG, TOLD, 3), NoOrder, {}),
    (loops.loop_later_by, (LOOP, ORDER, WRONG, 3), NoOrder, {}),
    (told.fits_readings, (BLOCK, WRONG, READINGS), NoOrder, {}),
    (told.gap_ask, (BLOCK, "u"), NoName, {"name": "u"}),
    (told.pair_ask, (BLOCK, "a", "u"), NoName, {"name": "u"}),
    (great.long_later_by, (SOON, (8, ())), OtherNames, {}),
    (great.long_never_later, (SOON, (9, ())), OtherNames, {}),
    (texts.block_in, ("a",), BadText, {}),
    (texts.board_in, (TEXT,), BadLine, {"number": 1}),
    (desk.answers, (TEXT + "\nundo\nundone",), BadLine, {"number": 2}),
)


def is_list_like(value):
    return isinstance(value, (list, tuple))


def with_lists(names, given):
    """What is given with lists for tuples, all the way down, but for thing."""
    return [value if name == "thing" else listed(value) for name, value in zip(names, given)]


def half_listed(value, depth=0):
    """The value with lists for tuples at every other depth."""
    if not is_list_like(value):
        return value
    parts = [half_listed(part, depth + 1) for part in value]
    return tuple(parts) if depth % 2 == 0 else parts


def spoiled(value):
    """The value with each of its parts, one at a time, and itself, replaced by what it is not."""
    found = [MADE, NoName("a"), True, None, [], [MADE], "", (((((((((((MADE,),),),),),),),),),),)]
    if isinstance(value, tuple):
        found.extend((value + (MADE,), value + (None,)))
        for at, part in enumerate(value):
            found.extend(value[:at] + (wrong,) + value[at + 1:] for wrong in spoiled(part))
    return found


class CallsTest(unittest.TestCase):
    def test_every_function_is_here(self):
        for module, many in ((blocks, 19), (issue, 13), (waits, 15), (ends, 10), (never, 13), (moves, 15),
                             (apart, 14), (best, 17), (loops, 12), (told, 12), (great, 7), (texts, 3), (desk, 1)):
            called = [ask for ask, _, _ in CALLS if ask.__module__ == module.__name__]
            self.assertEqual(len(set(called)), many)

    def test_names(self):
        for ask, names, _ in CALLS:
            self.assertEqual(tuple(inspect.signature(ask).parameters), names)

    def test_same_answer_however_called(self):
        for ask, names, given in CALLS:
            with self.subTest(ask=ask.__name__):
                told = ask(*given)
                self.assertIs(isinstance(told, list), ask.__name__ in GIVE_LISTS)
                self.assertFalse(any(has_list(part) for part in told) if isinstance(told, list) else has_list(told))
                halved = [value if name == "thing" else half_listed(value) for name, value in zip(names, given)]
                for again in (ask(*given), ask(**dict(zip(names, given))), ask(*with_lists(names, given)),
                              ask(**dict(zip(names, with_lists(names, given)))), ask(*halved)):
                    self.assertEqual(repr(again), repr(told))

    def test_arguments_stay(self):
        for ask, names, given in CALLS:
            with self.subTest(ask=ask.__name__):
                handed = with_lists(names, given)
                kept = deepcopy(handed)
                ask(*handed)
                self.assertEqual(handed, kept)

    def test_returned_values_can_be_passed_in(self):
        for ask, names, given in CALLS:
            told = ask(*given)
            if ask.__name__ in ("with_row", "without", "made_slow", "made_quick", "with_live", "renamed"):
                self.assertTrue(blocks.is_block(told))
                self.assertTrue(blocks.is_block(ask(*with_lists(names, given))))

    def test_things_are_no_lists(self):
        self.assertIs(blocks.is_block(listed(BLOCK)), False)
        self.assertIs(blocks.is_order(listed(BLOCK), listed(ORDER)), False)
        self.assertIs(issue.is_latencies(listed(BLOCK), listed(TOLD)), False)
        for ask, names, given in CALLS:
            if names[-1] == "thing":
                self.assertIs(ask(*given), True)
                self.assertIs(ask(*given[:-1], listed(given[-1])), False)

    def test_spoiled_things(self):
        for ask, names, given in CALLS:
            if names[-1] == "thing":
                for wrong in spoiled(given[-1]):
                    told = ask(*given[:-1], wrong)
                    self.assertIsInstance(told, bool)
                    # True in the place of False leaves a BLOCK a BLOCK; all else spoils it.
                    if ask not in (blocks.is_block, loops.is_loop):
                        self.assertIs(told, False, (ask.__name__, wrong))

    def test_refused(self):
        for ask, given, error, kept in REFUSED:
            for handed in (given, [listed(value) for value in given]):
                with self.subTest(ask=ask.__name__, handed=handed):
                    before = deepcopy(handed)
                    with self.assertRaises(error) as caught:
                        ask(*handed)
                    self.assertEqual(vars(caught.exception), kept)
                    self.assertEqual(handed, before)


if __name__ == "__main__":
    unittest.main()
