"""[2]: lists for tuples, calls by names, unchanged arguments, new lists, the same answers again."""

import inspect
import unittest
from copy import deepcopy

from anylatency import blocks, issue
from anylatency.errors import Needs, NoName, NoNumber, NoOrder, Twice
from tests.small import has_list, listed

BLOCK = ((("a", (), True), ("b", (), True), ("u", ("a", "b"), False), ("v", ("b",), False)), ("u", "v"))
ORDER, WRONG = ("a", "b", "u", "v"), ("u", "a", "b", "v")
TOLD = (("a", 3), ("b", 10 ** 40))

# Each function of the interface with the names of what it takes; thing is never handed in as a list.
CALLS = (
    (blocks.is_block, ("thing",), (BLOCK,)),
    (blocks.names_in, ("block",), (BLOCK,)),
    (blocks.reads_of, ("block", "name"), (BLOCK, "u")),
    (blocks.readers_of, ("block", "name"), (BLOCK, "b")),
    (blocks.needs_of, ("block", "name"), (BLOCK, "u")),
    (blocks.needed_by, ("block", "name"), (BLOCK, "b")),
    (blocks.slow_in, ("block",), (BLOCK,)),
    (blocks.awaited_in, ("block",), (BLOCK,)),
    (blocks.is_order, ("block", "thing"), (BLOCK, ORDER)),
    (blocks.least_order, ("block",), (BLOCK,)),
    (blocks.how_many_orders, ("block",), (BLOCK,)),
    (blocks.order_at, ("block", "number"), (BLOCK, 3)),
    (blocks.number_of_order, ("block", "order"), (BLOCK, ORDER)),
    (blocks.with_row, ("block", "row"), (BLOCK, ("v", ("a", "u"), True))),
    (blocks.without, ("block", "name"), (BLOCK, "b")),
    (blocks.made_slow, ("block", "some"), (BLOCK, ("a", "v"))),
    (blocks.made_quick, ("block", "some"), (BLOCK, ("a", "v"))),
    (blocks.with_live, ("block", "some"), (BLOCK, ("a", "b"))),
    (blocks.renamed, ("block", "pairs"), (BLOCK, (("u", "b"), ("b", "u")))),
    (issue.is_latencies, ("block", "thing"), (BLOCK, TOLD)),
    (issue.latencies_of, ("block", "pairs"), (BLOCK, TOLD[::-1])),
    (issue.issue_ticks, ("block", "order", "latencies"), (BLOCK, ORDER, TOLD)),
    (issue.come_ticks, ("block", "order", "latencies"), (BLOCK, ORDER, TOLD)),
    (issue.end_of, ("block", "order", "latencies"), (BLOCK, ORDER, TOLD)),
    (issue.idle_stretches, ("block", "order", "latencies"), (BLOCK, ORDER, TOLD)),
    (issue.how_many_idle, ("block", "order", "latencies"), (BLOCK, ORDER, TOLD)),
    (issue.held_up, ("block", "order", "latencies"), (BLOCK, ORDER, TOLD)),
    (issue.issued_at, ("block", "order", "latencies", "tick"), (BLOCK, ORDER, TOLD, 1)),
    (issue.on_way, ("block", "order", "latencies", "tick"), (BLOCK, ORDER, TOLD, 1)),
    (issue.most_on_way, ("block", "order", "latencies"), (BLOCK, ORDER, TOLD)),
    (issue.slack_of, ("block", "order", "latencies", "name"), (BLOCK, ORDER, TOLD, "a")),
    (issue.quickest_order, ("block", "latencies"), (BLOCK, TOLD)),
)

REFUSED = (
    (blocks.reads_of, (BLOCK, "x"), NoName, {"name": "x"}),
    (blocks.order_at, (BLOCK, 99), NoNumber, {"number": 99}),
    (blocks.number_of_order, (BLOCK, WRONG), NoOrder, {}),
    (blocks.with_row, (BLOCK, ("a", ("u", "x"), True)), NoName, {"name": "x"}),
    (blocks.with_row, (BLOCK, ("a", ("u",), True)), Needs, {}),
    (blocks.made_slow, (BLOCK, ("a", "x", "y")), NoName, {"name": "x"}),
    (blocks.renamed, (BLOCK, (("x", "a"), ("a", "b"))), NoName, {"name": "x"}),
    (blocks.renamed, (BLOCK, (("a", "b"),)), Twice, {"name": "b"}),
    (issue.latencies_of, (BLOCK, (("v", 2), ("a", 3))), NoName, {"name": "v"}),
    (issue.end_of, (BLOCK, WRONG, TOLD), NoOrder, {}),
    (issue.slack_of, (BLOCK, WRONG, TOLD, "x"), NoOrder, {}),
    (issue.slack_of, (BLOCK, ORDER, TOLD, "u"), NoName, {"name": "u"}),
)


def is_list_like(value):
    return isinstance(value, (list, tuple))


def with_lists(names, given):
    """What is given with lists for tuples, all the way down, but for thing."""
    return [value if name == "thing" else listed(value) for name, value in zip(names, given)]


def half_listed(value, depth=0):
    """The value with lists for tuples at every other depth."""
    if not is_list_like(value):
        return value
    parts = [half_listed(part, depth + 1) for part in value]
    return tuple(parts) if depth % 2 == 0 else parts


class CallsTest(unittest.TestCase):
    def test_every_function_is_here(self):
        for module, many in ((blocks, 19), (issue, 13)):
            called = [ask for ask, _, _ in CALLS if ask.__module__ == module.__name__]
            self.assertEqual(len(set(called)), many)

    def test_names(self):
        for ask, names, _ in CALLS:
            self.assertEqual(tuple(inspect.signature(ask).parameters), names)

    def test_same_answer_however_called(self):
        for ask, names, given in CALLS:
            with self.subTest(ask=ask.__name__):
                told = ask(*given)
                self.assertFalse(has_list(told))
                halved = [value if name == "thing" else half_listed(value) for name, value in zip(names, given)]
                for again in (ask(*given), ask(**dict(zip(names, given))), ask(*with_lists(names, given)),
                              ask(**dict(zip(names, with_lists(names, given)))), ask(*halved)):
                    self.assertEqual(repr(again), repr(told))

    def test_arguments_stay(self):
        for ask, names, given in CALLS:
            with self.subTest(ask=ask.__name__):
                handed = with_lists(names, given)
                kept = deepcopy(handed)
                ask(*handed)
                self.assertEqual(handed, kept)

    def test_returned_values_can_be_passed_in(self):
        for ask, names, given in CALLS:
            told = ask(*given)
            if ask.__name__ in ("with_row", "without", "made_slow", "made_quick", "with_live", "renamed"):
                self.assertTrue(blocks.is_block(told))
                self.assertTrue(blocks.is_block(ask(*with_lists(names, given))))

    def test_things_are_no_lists(self):
        self.assertIs(blocks.is_block(listed(BLOCK)), False)
        self.assertIs(blocks.is_order(listed(BLOCK), listed(ORDER)), False)
        self.assertIs(issue.is_latencies(listed(BLOCK), listed(TOLD)), False)

    def test_refused(self):
        for ask, given, error, kept in REFUSED:
            for handed in (given, [listed(value) for value in given]):
                with self.subTest(ask=ask.__name__, handed=handed):
                    before = deepcopy(handed)
                    with self.assertRaises(error) as caught:
                        ask(*handed)
                    self.assertEqual(vars(caught.exception), kept)
                    self.assertEqual(handed, before)


if __name__ == "__main__":
    unittest.main()
