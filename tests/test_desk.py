"""[16]: a desk and its requests."""

import unittest
from itertools import product

from anylatency.board import Board
from anylatency.desk import answers
from anylatency.errors import BadLine, NoEntry, NoFrame, NoName, NoOrder, NotKnown, Outside
from anylatency.texts import block_text
from tests.small import LETTERS, MIXED, ROOMY, WIDE, all_orders, few_blocks, loose, slow_names, some_blocks, turns

HEAD = "block a*; b*; u a; v b | u v"
GREAT = 10 ** 40
SIGNS = (" ", "a", "z", "A", "*", ":", "-", ".", "0", "1", "\t", "\r", "_", "\xe9", "\u0661", "%")


def shown(order):
    return "*" if order is None else " ".join(order) if order else "-"


class Desk:
    """A Board, and for each request the line that asks for it and the answer that it must have."""

    def __init__(self, block):
        self.board = Board(block)
        self.lines = ["block " + block_text(block)]
        self.answers = ["done"]

    def ask(self, line, do):
        try:
            told = do()
        except (NoName, NoEntry, NoFrame, NoOrder, NotKnown, Outside) as refused:
            told = "refused " + refused.__class__.__name__
        self.lines.append(line)
        self.answers.append("done" if told is None else told)

    def learn(self, name, number):
        self.ask(f"learn {name} {number}", lambda: self.board.learn(name, number))

    def forget(self, name):
        self.ask(f"forget {name}", lambda: self.board.forget(name))

    def order(self, name, order):
        self.ask(f"order {name} {shown(order)}", lambda: self.board.__setitem__(name, order))

    def leave(self, name):
        self.ask(f"leave {name}", lambda: self.board.leave(name))

    def lift(self, name):
        self.ask(f"lift {name}", lambda: self.board.lift(name))

    def add(self, name, one, other):
        def do():
            self.board += (name, (one, other))

        self.ask(f"add {name} {one} {other}", do)

    def frame(self, name, low, high):
        self.ask(f"frame {name} from {shown(low)} .. {shown(high)}", lambda: self.board.frame(name, low, high))

    def end(self, name):
        self.ask(f"end {name}", lambda: str(self.board.end(name)))

    def first(self):
        self.ask("first", lambda: " ".join(self.board.first()) or "-")

    def above(self, name):
        self.ask(f"above {name}", lambda: " ".join(self.board.above(name)) or "-")

    def doubled(self):
        self.ask("doubled", lambda: " ".join(self.board.doubled()) or "-")

    def effect(self, name, order):
        self.ask(f"effect {name} {shown(order)}", lambda: self.board.effect(name, order))

    def undo(self):
        self.ask("undo", lambda: "yes" if self.board.undo() else "no")


def some_request(desk, orders, told):
    """Asks for something, of whatever kind, that is sometimes refused."""
    names = [name for name, _, _ in desk.board.block[0]] + ["x"]
    entry = ("one", "two", "end", "from")[next(told) % 4]
    name, other = names[next(told) % len(names)], names[next(told) % len(names)]
    # What is none of the BLOCK is written as unlike NAMEs all the same.
    ends = orders + [orders[0][::-1], orders[0] + ("x",)]
    order, high = ends[next(told) % len(ends)], (ends + [None] * 3)[next(told) % (len(ends) + 3)]
    kind = next(told) % 18
    if kind < 2:
        desk.learn(name, 1 + next(told) % 12)
    elif kind < 6:
        desk.order(entry, order)
    elif kind < 8:
        desk.add(entry, name, other)
    elif kind < 10:
        desk.frame(entry, (None, order)[next(told) % 2], high)
    elif kind == 10:
        desk.effect(entry, order)
    elif kind == 11:
        (desk.first, desk.doubled)[next(told) % 2]()
    elif kind == 12:
        (desk.lift, desk.leave)[next(told) % 2](entry)
    elif kind < 15:
        (desk.end, desk.above)[next(told) % 2](entry)
    elif kind == 15:
        desk.forget(name)
    else:
        desk.undo()


class DeskTest(unittest.TestCase):
    def test_requests(self):
        told = turns(3)
        seen = set()
        for block in [WIDE, ROOMY, MIXED, ((), ())] + [WIDE] * 6 + few_blocks(8) + some_blocks()[400::37]:
            desk, orders = Desk(block), all_orders(block)
            for _ in range(120):
                some_request(desk, orders, told)
            # The tuple that is nearly none is read as the one without NAMEs, or is written like it.
            self.assertEqual(answers("\n".join(desk.lines)), desk.answers)
            seen |= {(line.split(" ")[0], answer) for line, answer in zip(desk.lines, desk.answers)}
        wanted = {(word, "done") for word in ("learn", "forget", "order", "leave", "lift", "add", "frame", "block")}
        wanted |= {("learn", "refused NoName"), ("forget", "refused NoName"), ("forget", "refused NotKnown"),
                   ("order", "refused NoOrder"), ("order", "refused Outside"), ("leave", "refused NoEntry"),
                   ("lift", "refused NoEntry"), ("lift", "refused NoFrame"), ("add", "refused NoEntry"),
                   ("add", "refused NoName"), ("add", "refused NoOrder"), ("add", "refused Outside"),
                   ("frame", "refused NoEntry"), ("frame", "refused NoOrder"), ("frame", "refused Outside"),
                   ("end", "refused NoEntry"), ("above", "refused NoEntry"), ("effect", "refused NoEntry"),
                   ("effect", "refused NoOrder"), ("effect", "alike"), ("effect", "more"), ("effect", "less"),
                   ("effect", "either"), ("undo", "yes"), ("undo", "no"), ("first", "-"), ("doubled", "-"),
                   ("above", "-")}
        self.assertLessEqual(wanted, seen)

    def test_first_lines(self):
        self.assertEqual(answers(""), [])
        for block in some_blocks()[::11]:
            self.assertEqual(answers("block " + block_text(block)), ["done"])
        self.assertEqual(answers("block - | -"), ["done"])

    def test_lists_of_names(self):
        text = HEAD + "\norder b a u b v\norder a a u b v\nfirst\ndoubled\nabove a\nabove b\nend a\nfirst"
        self.assertEqual(answers(text), ["done", "done", "done", "a b", "b", "b", "a", "4", "a b"])
        told = answers(text)
        told.clear()
        self.assertEqual(len(answers(text)), 9)

    def test_great_numbers(self):
        names = LETTERS
        text = "\n".join(["block " + block_text(loose(8, names)), "order x " + " ".join(names)]
                         + [f"learn {name} {GREAT}" for name in names] + ["end x", f"learn a {10 ** 1000}", "end x"])
        self.assertEqual(answers(text)[-3:], [str(GREAT + 7), "done", str(10 ** 1000)])

    def test_60_lines(self):
        text = "\n".join([HEAD] + [f"learn a {number}" for number in range(1, 30)] + ["undo"] * 30)
        self.assertEqual(answers(text), ["done"] * 30 + ["yes"] * 29 + ["no"])

    def test_refused_changes_nothing(self):
        text = HEAD + "\norder one a u b v\nframe one from b v a u .. a b u v\n"
        for line, name in (("order one a b v u", "Outside"), ("order one u a", "NoOrder"), ("order one -", "NoOrder"),
                           ("add one u z", "NoName"), ("add one a u", "NoOrder"), ("add x u z", "NoEntry"),
                           ("learn u 5", "NoName"), ("learn z 5", "NoName"), ("forget a", "NotKnown"),
                           ("forget u", "NoName"), ("leave x", "NoEntry"), ("lift x", "NoEntry"), ("end x", "NoEntry"),
                           ("above x", "NoEntry"), ("effect x u", "NoEntry"), ("effect one u", "NoOrder"),
                           ("frame x from u .. u", "NoEntry"), ("frame one from u .. *", "NoOrder"),
                           ("frame one from * .. -", "NoOrder"), ("frame one from a b u v .. *", "Outside")):
            told = answers(text + line + "\nundo\nlift one\nundo\nundo")
            self.assertEqual(told, ["done"] * 3 + ["refused " + name, "yes", "refused NoFrame", "yes", "no"])


class WrongLinesTest(unittest.TestCase):
    def bad(self, text, number):
        with self.subTest(text=text):
            with self.assertRaises(BadLine) as caught:
                answers(text)
            self.assertEqual(vars(caught.exception), {"number": number})

    def test_first_line(self):
        for line in (" ", "block", "block ", "block b; a | -", "Block - | -", " block - | -", "block  - | -", "- | -",
                     "block - | - ", "first", "undo", "\t"):
            self.bad(line, 0)
            self.bad(line + "\nwrong", 0)
        self.bad("\n", 0)
        self.bad("\n" + HEAD, 0)

    def test_wrong_requests(self):
        for line in ("", " ", "undo ", " undo", "Undo", "undo x", "first x", "first ", "doubled x", "doubled -", "known",
                     HEAD, "block - | -", "end", "end ", "end x y", "end  x", "end X", "end -", "end abcdefghi", "above",
                     "above x y", "above *", "learn", "learn a", "learn a 0", "learn a 05", "learn a -5", "learn a +5",
                     "learn a b", "learn a 5 5", "learn a 5 ", "learn  a 5", "learn a  5", "learn A 5", "learn a \u0665",
                     "learn a \xb2", "learn a 5.0", "learn a 1_0", "learn a ", "learn 5 a", "forget", "forget a b",
                     "forget A", "forget a ", "order", "order x", "order x ", "order x a a", "order x a u b v a",
                     "order x  a b", "order x a  b", "order x a b ", "order x - -", "order x a -", "order x - a",
                     "order x *", "order x A", "order X a", "order - a", "leave", "leave x y", "leave *", "lift",
                     "lift x y", "lift 1", "add", "add x", "add x a", "add x a b c", "add x a B", "add x A b", "add X a b",
                     "add  x a b", "add x a  b", "add x a b ", "add x a -", "frame", "frame x", "frame x from",
                     "frame x from *", "frame x from * ..", "frame x from * .. ", "frame x from  .. *", "frame x from .. *",
                     "frame x * .. *", "frame x from * .. * ", "frame x from  * .. *", "frame x from *..*",
                     "frame x from * .. * .. *", "frame x from * * .. *", "frame x from a * .. *", "frame x from a a .. *",
                     "frame x from * .. b b", "frame x from * .. - -", "frame x from - - .. *", "frame x from * .. B",
                     "frame X from * .. *", "frame x From * .. *", "frame x to * .. *", "frame  x from * .. *",
                     "frame x from * ... *", "effect", "effect x", "effect x ", "effect x a a", "effect x *",
                     "effect X a", "effect x a ", "set x a b", "attempt", "twin", "undo\r", "undo\t"):
            self.bad(HEAD + "\n" + line, 1)
            self.bad(HEAD + "\nundo\nend nobody\n" + line + "\nundo\nwrong", 3)

    def test_names_that_are_words(self):
        text = ("block from*; to from | -\norder end from to\nframe end from from to .. from to\nframe end from * .. from to\n"
                "lift end\norder order from to\nend end\nabove end\nadd undo from to\nlearn from 3\nend order\nleave end\nend end")
        self.assertEqual(answers(text), ["done", "done", "done", "done", "done", "done", "2", "order", "refused NoEntry",
                                         "done", "4", "done", "refused NoEntry"])

    def test_nearly_right_requests(self):
        lines = ("learn a 10", "forget b", "order x a b u v", "leave x", "add x u b", "frame x from a u b v .. *", "end x",
                 "first", "effect x a b u v", "undo")
        good = 0
        for line in lines:
            for at, sign in product(range(len(line) + 1), SIGNS):
                for new in (line[:at] + sign + line[at:], line[:at] + sign + line[at + 1:], line[:at] + line[at + 1:]):
                    try:
                        told = answers(HEAD + "\n" + new)
                    except BadLine as refused:
                        self.assertEqual(refused.number, 1)
                        continue
                    self.assertEqual(len(told), 2)
                    words = new.split(" ")
                    self.assertIn(words[0], [line.split(" ")[0] for line in lines])
                    self.assertTrue(all(word in ("*", "..", "-") or word.isalpha() and word.isascii() and word.islower()
                                        or word.isdigit() and word.isascii() and str(int(word)) == word
                                        for word in words), new)
                    good += 1
        self.assertGreater(good, 100)


if __name__ == "__main__":
    unittest.main()
