"""The examples that the document shows, with the answers that stand there."""

import unittest

from anylatency import blocks, ends, issue, moves, never, waits

BLOCKS = r"""
>>> block = ((("a", (), True), ("b", (), True), ("c", ("a", "b"), False)), ("c",))
>>> wide = ((("a", (), True), ("b", (), True), ("u", ("a",), False), ("v", ("b",), False)), ("u", "v"))
>>> is_block(block), is_block(block[0]), names_in(wide), reads_of(wide, "u"), readers_of(wide, "a"), needs_of(block, "c"), needed_by(block, "b"), slow_in(block)
(True, False, ('a', 'b', 'u', 'v'), ('a',), ('u',), ('a', 'b'), ('c',), ('a', 'b'))
>>> how_many_orders(block), how_many_orders(wide), least_order(wide), order_at(wide, 5), number_of_order(wide, ("a", "u", "b", "v")), is_order(block, ("c", "a", "b")), is_order(block, ["a", "b", "c"])
(2, 6, ('a', 'b', 'u', 'v'), ('b', 'v', 'a', 'u'), 2, False, False)
>>> chain = with_row(block, ("b", ("a",), False))
>>> chain, slow_in(chain), awaited_in(without(block, "c")), awaited_in(with_live(without(block, "c"), ("a",)))
(((('a', (), True), ('b', ('a',), False), ('c', ('a', 'b'), False)), ('c',)), ('a',), (), ('a',))
>>> without(block, "c"), made_quick(block, ("a",))[0][0], made_slow(block, ("c",))[0][2], renamed(block, (("a", "b"), ("b", "a"))) == block, renamed(block, (("c", "z"),))[1]
(((('a', (), True), ('b', (), True)), ()), ('a', (), False), ('c', ('a', 'b'), True), True, ('z',))
>>> with_row(block, ("a", ("c",), True))
raises Needs()
>>> renamed(block, (("a", "c"),))
raises Twice(name='c')
>>> needs_of(block, "x")
raises NoName(name='x')
>>> number_of_order(block, ("c", "a", "b"))
raises NoOrder()
>>> order_at(wide, 6)
raises NoNumber(number=6)
"""

ISSUE = r"""
>>> wide = ((("a", (), True), ("b", (), True), ("u", ("a",), False), ("v", ("b",), False)), ("u", "v"))
>>> first, other = ("a", "u", "b", "v"), ("a", "b", "u", "v")
>>> told = latencies_of(wide, (("a", 3),))
>>> told, issue_ticks(wide, first, told), come_ticks(wide, first, told), end_of(wide, first, told), end_of(wide, other, told)
((('a', 3), ('b', 1)), (0, 3, 4, 5), (3, 4, 5, 6), 6, 5)
>>> idle_stretches(wide, first, told), how_many_idle(wide, first, told), held_up(wide, first, told), issued_at(wide, first, told, 3), issued_at(wide, first, told, 1)
(((1, 2),), 2, ((), ('a',), (), ()), 'u', None)
>>> on_way(wide, first, told, 2), on_way(wide, first, told, 3), most_on_way(wide, first, told), most_on_way(wide, other, told), slack_of(wide, other, told, "a"), slack_of(wide, other, told, "b")
(('a',), (), 1, 2, 0, 2)
>>> quickest_order(wide, told), quickest_order(wide, latencies_of(wide, ())), is_latencies(wide, told), is_latencies(wide, told[:1])
((('a', 'b', 'v', 'u'), 4), (('a', 'b', 'u', 'v'), 4), True, False)
>>> latencies_of(wide, (("u", 2),))
raises NoName(name='u')
>>> end_of(wide, ("u", "a", "b", "v"), told)
raises NoOrder()
"""

WAITS = r"""
>>> block = ((("a", (), True), ("b", (), True), ("c", ("a", "b"), False), ("d", ("c",), True), ("e", (), True)), ("d",))
>>> order, turned = ("a", "b", "c", "d", "e"), ("b", "e", "a", "c", "d")
>>> [first_reader(block, order, name) for name in "abcde"], [wait_of(block, order, name) for name in "abcde"], gap_of(block, order, "a"), gap_of(block, order, "e")
([2, 2, 3, 5, 5], [(0, 2), (1, 2), None, (3, 5), None], 1, None)
>>> gaps(block, order), gaps(block, turned), meeting(block, order), meets(block, order, "d", "a"), meets(block, order, "b", "a"), meets(block, order, "a", "c")
((('a', 1), ('b', 0), ('d', 1)), (('a', 0), ('b', 2), ('d', 0)), (('a', 'b'),), False, True, False)
>>> adds_up(block, order, ("a", "d")), adds_up(block, order, ("a", "b")), adds_up(block, order, ("e",)), adds_up(block, order, ()), adding(block, order), how_many_adding(block, turned)
(True, False, False, True, [(), ('a',), ('a', 'd'), ('b',), ('b', 'd'), ('d',)], 6)
>>> is_most_adding(block, order, ("b", "d")), is_most_adding(block, order, ("a",)), is_most_adding(block, order, most_adding(block, order)), [at_once(block, order, place) for place in range(-1, 6)], most_at_once(block, order)
(True, False, True, [(), ('a',), ('a', 'b'), (), ('d',), ('d',), ()], 2)
>>> len(parted(block, order)), is_parted(block, order, parted(block, order)), is_parted(block, order, (("b", "d"), ("a",))), is_parted(block, order, (("a",), ("b",), ("d",))), is_parted(block, order, (("a", "b"), ("d",)))
(2, True, True, False, False)
>>> gaps(block, ("a", "c", "b", "d", "e"))
raises NoOrder()
>>> gap_of(block, order, "x")
raises NoName(name='x')
"""

ENDS = r"""
>>> block = ((("a", (), True), ("b", (), True), ("c", ("a", "b"), False), ("d", ("c",), True), ("e", (), True)), ("d",))
>>> order, lasts = ("a", "b", "c", "d", "e"), (("a", 4), ("b", 6), ("d", 3), ("e", 9))
>>> end_of(block, order, lasts), end_from(block, order, lasts, ("b", "d")), end_from(block, order, lasts, ("a", "d")), end_from(block, order, lasts, ()), end_from(block, order, lasts, ("a", "b")), makers(block, order, lasts)
(11, 11, 8, 5, None, [('b', 'd')])
>>> even = (("a", 6), ("b", 5), ("d", 1), ("e", 9))
>>> end_of(block, order, even), makers(block, order, even), which_matter(block, order, even), which_hold(block, order, even), which_hold(block, order, lasts), is_maker(block, order, even, maker(block, order, even)), is_maker(block, order, even, ("a", "b"))
(9, [('a',), ('b',)], ('a', 'b'), (), ('b', 'd'), True, False)
>>> end_range(block, order, (("a", 1), ("b", 1), ("d", 1), ("e", 1)), lasts), [worth(block, order, lasts, name) for name in "abcde"]
((5, 11), [0, 3, 0, 1, 0])
>>> [fewest_quick(block, order, lasts, end) for end in (11, 10, 8, 7, 5, 4)], end_of(block, order, latencies_reaching(block, order, 9)), end_of(block, order, latencies_reaching(block, order, 5)), latencies_reaching(block, order, 4)
([(), ('b',), ('b',), ('a', 'b'), ('a', 'b', 'd'), None], 9, 5, None)
>>> worth(block, order, lasts, "x")
raises NoName(name='x')
"""

NEVER = r"""
>>> block = ((("a", (), True), ("b", (), True), ("u", ("a",), False), ("v", ("b",), False)), ("u", "v"))
>>> plain, close, far = ("a", "u", "b", "v"), ("a", "b", "u", "v"), ("a", "b", "v", "u")
>>> never_later(block, close, plain), never_later(block, plain, close), alike(block, close, ("b", "a", "v", "u")), compare(block, close, plain), compare(block, plain, close), compare(block, close, far)
(True, False, True, 'better', 'worse', 'apart')
>>> slow_ones(block, plain, close), slow_ones(block, far, close), slow_ones(block, close, plain), gap_changes(block, close, far), meet_changes(block, close, plain)
(('a',), ('b',), None, (('a', -1), ('b', 1)), ((('a', 'b'),), ()))
>>> later_by(block, plain, close), later_by(block, close, far), later_by(block, close, plain), latencies_later(block, close, far, 2), latencies_later(block, close, far, 1) is None
(None, 1, 0, None, False)
>>> is_latencies_later(block, close, far, 1, (("a", 5), ("b", 1))), is_latencies_later(block, close, far, 1, (("a", 2), ("b", 1))), is_latencies_later(block, plain, close, 9, latencies_later(block, plain, close, 9))
(True, False, True)
>>> small = (("a", 1), ("b", 1))
>>> never_later_within(block, close, far, small), later_by_within(block, plain, close, small), worst_set(block, plain, close, small), later_by_within(block, close, far, (("a", 2), ("b", 9))), worst_set(block, close, far, (("a", 2), ("b", 9))), worst_set(block, close, far, small)
(True, 2, ('a', 'b'), 1, ('a',), ())
>>> safe_top(block, close, far), safe_top(block, plain, close), safe_top(block, close, plain)
(1, 0, None)
>>> wide = ((("a", (), True), ("b", (), True), ("u", ("a",), False), ("v", ("b",), False), ("x", (), False), ("y", (), False)), ("u", "v"))
>>> slow_ones(wide, ("a", "x", "u", "b", "y", "v"), ("a", "b", "u", "v", "x", "y")), gap_changes(wide, ("a", "x", "u", "b", "y", "v"), ("a", "b", "u", "v", "x", "y"))
(('a', 'b'), ())
>>> never_later(block, ("u", "a", "b", "v"), close)
raises NoOrder()
"""

MOVES = r"""
>>> block = ((("a", (), True), ("b", (), True), ("u", ("a",), False), ("v", ("b",), False)), ("u", "v"))
>>> plain, close = ("a", "u", "b", "v"), ("a", "b", "u", "v")
>>> exchanged(block, plain, 1), effect(block, plain, 1), gap_effects(block, plain, 1), [effect(block, close, place) for place in range(3)], gap_effects(block, close, 0)
(('a', 'b', 'u', 'v'), 'better', (('a', 1), ('b', 1)), ['apart', 'worse', 'apart'], (('a', -1), ('b', 1)))
>>> free_places(block, plain), better_places(block, plain), free_places(block, close), climbed(block, plain), climbed(block, close)
((1,), (1,), (), ('a', 'b', 'u', 'v'), ('a', 'b', 'u', 'v'))
>>> moved(block, plain, "b", 0), places_for(block, plain, "b"), free_for(block, plain, "b"), free_for(block, close, "b"), places_for(block, plain, "u")
(('b', 'a', 'u', 'v'), (0, 1, 2), (0, 1, 2), (1,), (1, 2, 3))
>>> free_way(block, plain, close), fewest_free(block, plain, close), free_way(block, close, plain), free_way(block, plain, ("b", "a", "u", "v")), free_way(block, plain, plain)
((1,), 1, None, None, ())
>>> is_free_way(block, plain, close, (1,)), is_free_way(block, plain, close, (1, 1, 1)), is_free_way(block, plain, close, [1])
(True, False, False)
>>> paused(block, plain, "n", 1)[1], paused(block, plain, "n", 1)[0][0][2], hidden_under(block, plain, 1), hidden_under(block, plain, 2), hidden_under(block, close, 2)
(('a', 'n', 'u', 'b', 'v'), ('n', (), False), ('a',), (), ('a', 'b'))
>>> pause_cost(block, plain, 1, (("a", 3), ("b", 1))), pause_cost(block, plain, 1, (("a", 1), ("b", 1))), pause_cost(block, plain, 0, (("a", 3), ("b", 1)))
(0, 1, 1)
>>> exchanged(block, plain, 0)
raises Needs()
>>> exchanged(block, plain, 3)
raises NoNumber(number=3)
>>> paused(block, plain, "b", 9)
raises Twice(name='b')
"""


def steps_of(text):
    """The pairs (code, answer) of the text; the answer is None where none stands."""
    steps = []
    for line in text.strip().split("\n"):
        if line.startswith(">>> "):
            steps.append([line[4:], None])
        else:
            steps[-1][1] = line
    return steps


def shown(raised):
    kept = ", ".join(f"{word}={value!r}" for word, value in vars(raised).items())
    return f"raises {raised.__class__.__name__}({kept})"


class ExamplesTest(unittest.TestCase):
    def go_through(self, text, *modules):
        names = {}
        for module in modules:
            names.update({word: value for word, value in vars(module).items() if not word.startswith("_")})
        asked = 0
        for code, answer in steps_of(text):
            with self.subTest(code=code):
                if answer is None:
                    exec(code, names)
                    continue
                asked += 1
                try:
                    told = repr(eval(code, names))
                except (LookupError, ValueError) as raised:
                    told = shown(raised)
                self.assertEqual(told, answer)
        return asked

    def test_blocks(self):
        self.assertEqual(self.go_through(BLOCKS, blocks), 9)

    def test_issue(self):
        self.assertEqual(self.go_through(ISSUE, blocks, issue), 6)

    def test_waits(self):
        self.assertEqual(self.go_through(WAITS, waits), 7)

    def test_ends(self):
        self.assertEqual(self.go_through(ENDS, issue, ends), 5)

    def test_never(self):
        self.assertEqual(self.go_through(NEVER, never), 8)

    def test_moves(self):
        self.assertEqual(self.go_through(MOVES, moves), 10)


if __name__ == "__main__":
    unittest.main()
