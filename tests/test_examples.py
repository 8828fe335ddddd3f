"""The examples that the document shows, with the answers that stand there."""

import unittest

from anylatency import blocks, issue

BLOCKS = r"""
>>> block = ((("a", (), True), ("b", (), True), ("c", ("a", "b"), False)), ("c",))
>>> wide = ((("a", (), True), ("b", (), True), ("u", ("a",), False), ("v", ("b",), False)), ("u", "v"))
>>> is_block(block), is_block(block[0]), names_in(wide), reads_of(wide, "u"), readers_of(wide, "a"), needs_of(block, "c"), needed_by(block, "b"), slow_in(block)
(True, False, ('a', 'b', 'u', 'v'), ('a',), ('u',), ('a', 'b'), ('c',), ('a', 'b'))
>>> how_many_orders(block), how_many_orders(wide), least_order(wide), order_at(wide, 5), number_of_order(wide, ("a", "u", "b", "v")), is_order(block, ("c", "a", "b")), is_order(block, ["a", "b", "c"])
(2, 6, ('a', 'b', 'u', 'v'), ('b', 'v', 'a', 'u'), 2, False, False)
>>> chain = with_row(block, ("b", ("a",), False))
>>> chain, slow_in(chain), awaited_in(without(block, "c")), awaited_in(with_live(without(block, "c"), ("a",)))
(((('a', (), True), ('b', ('a',), False), ('c', ('a', 'b'), False)), ('c',)), ('a',), (), ('a',))
>>> without(block, "c"), made_quick(block, ("a",))[0][0], made_slow(block, ("c",))[0][2], renamed(block, (("a", "b"), ("b", "a"))) == block, renamed(block, (("c", "z"),))[1]
(((('a', (), True), ('b', (), True)), ()), ('a', (), False), ('c', ('a', 'b'), True), True, ('z',))
>>> with_row(block, ("a", ("c",), True))
raises Needs()
>>> renamed(block, (("a", "c"),))
raises Twice(name='c')
>>> needs_of(block, "x")
raises NoName(name='x')
>>> number_of_order(block, ("c", "a", "b"))
raises NoOrder()
>>> order_at(wide, 6)
raises NoNumber(number=6)
"""

ISSUE = r"""
>>> wide = ((("a", (), True), ("b", (), True), ("u", ("a",), False), ("v", ("b",), False)), ("u", "v"))
>>> first, other = ("a", "u", "b", "v"), ("a", "b", "u", "v")
>>> told = latencies_of(wide, (("a", 3),))
>>> told, issue_ticks(wide, first, told), come_ticks(wide, first, told), end_of(wide, first, told), end_of(wide, other, told)
((('a', 3), ('b', 1)), (0, 3, 4, 5), (3, 4, 5, 6), 6, 5)
>>> idle_stretches(wide, first, told), how_many_idle(wide, first, told), held_up(wide, first, told), issued_at(wide, first, told, 3), issued_at(wide, first, told, 1)
(((1, 2),), 2, ((), ('a',), (), ()), 'u', None)
>>> on_way(wide, first, told, 2), on_way(wide, first, told, 3), most_on_way(wide, first, told), most_on_way(wide, other, told), slack_of(wide, other, told, "a"), slack_of(wide, other, told, "b")
(('a',), (), 1, 2, 0, 2)
>>> quickest_order(wide, told), quickest_order(wide, latencies_of(wide, ())), is_latencies(wide, told), is_latencies(wide, told[:1])
((('a', 'b', 'v', 'u'), 4), (('a', 'b', 'u', 'v'), 4), True, False)
>>> latencies_of(wide, (("u", 2),))
raises NoName(name='u')
>>> end_of(wide, ("u", "a", "b", "v"), told)
raises NoOrder()
"""


def steps_of(text):
    """The pairs (code, answer) of the text; the answer is None where none stands."""
    steps = []
    for line in text.strip().split("\n"):
        if line.startswith(">>> "):
            steps.append([line[4:], None])
        else:
            steps[-1][1] = line
    return steps


def shown(raised):
    kept = ", ".join(f"{word}={value!r}" for word, value in vars(raised).items())
    return f"raises {raised.__class__.__name__}({kept})"


class ExamplesTest(unittest.TestCase):
    def go_through(self, text, *modules):
        names = {}
        for module in modules:
            names.update({word: value for word, value in vars(module).items() if not word.startswith("_")})
        asked = 0
        for code, answer in steps_of(text):
            with self.subTest(code=code):
                if answer is None:
                    exec(code, names)
                    continue
                asked += 1
                try:
                    told = repr(eval(code, names))
                except (LookupError, ValueError) as raised:
                    told = shown(raised)
                self.assertEqual(told, answer)
        return asked

    def test_blocks(self):
        self.assertEqual(self.go_through(BLOCKS, blocks), 9)

    def test_issue(self):
        self.assertEqual(self.go_through(ISSUE, blocks, issue), 6)


if __name__ == "__main__":
    unittest.main()
