"""[16]: BLOCKs and Boards in lines."""

import unittest
from itertools import product

from anylatency.board import Board
from anylatency.errors import BadLine, BadText
from anylatency.texts import block_in, block_text, board_in, board_text
from tests.small import (LETTERS, MIXED, ROOMY, WIDE, all_orders, block_by, chain, how_many_blocks, listed, loose,
                         slow_names, some_blocks)

EMPTY = ((), ())
GREAT = 10 ** 40
PLAIN, CLOSE, FAR, TURNED = ("a", "u", "b", "v"), ("a", "b", "u", "v"), ("a", "b", "v", "u"), ("b", "v", "a", "u")
FULL = "\n".join(["block a*; b*; u a; v b | u v", "known a=5 b=3", "one: a u b v", "two: a b u v", "x: b v a u",
                  "one from b v a u .. a b u v", "x from * .. *", "end"])
# Signs that make texts that are nearly right.
SIGNS = (" ", "a", "z", "A", "*", ";", "|", "-", ":", "=", ".", "0", "1", "\n", "\t", "\r", "_", "+", "\xe9", "\u0661",
         "\xb2", "\x00", "%")


def text_by_hand(block):
    """The text of a BLOCK, put together word by word."""
    text = ""
    for name, reads, slow in block[0]:
        text += ("; " if text else "") + name
        if slow:
            text += "*"
        for one in reads:
            text += " " + one
    text = (text if block[0] else "-") + " |"
    for name in block[1]:
        text += " " + name
    return text if block[1] else text + " -"


def known_boards():
    """Boards of all kinds, each with the lines that tell it."""
    full = Board(WIDE)
    full["x"], full["two"], full["one"] = TURNED, CLOSE, PLAIN
    full.learn("b", 3)
    full.learn("a", 5)
    full.frame("x", None, None)
    full.frame("one", TURNED, CLOSE)
    empty = Board()
    empty["end"], empty["block"], empty["known"] = (), (), ()
    empty.frame("known", (), None)
    empty.frame("end", (), ())
    great = Board(loose(8, LETTERS))
    for name in LETTERS:
        great.learn(name, GREAT)
        great["from"] = tuple(LETTERS)
    great.frame("from", tuple(LETTERS), None)
    words = Board(((("block", (), True), ("end", ("from",), False), ("from", ("block",), True), ("known", (), False)),
                   ("end", "from")))
    words["from"] = ("block", "from", "end", "known")
    words["end"] = ("known", "block", "from", "end")
    words.frame("from", ("block", "from", "end", "known"), None)
    words.learn("from", 10)
    return ((full, FULL), (Board(), "block - | -\nknown\nend"), (Board(WIDE), "block a*; b*; u a; v b | u v\nknown\nend"),
            (empty, "block - | -\nknown\nblock: -\nend: -\nknown: -\nend from - .. -\nknown from - .. *\nend"),
            (great, "block a*; b*; c*; d*; e*; f*; g*; h* | a b c d e f g h\nknown "
             + " ".join(f"{name}=1" + 40 * "0" for name in LETTERS) + "\nfrom: a b c d e f g h\n"
             + "from from a b c d e f g h .. *\nend"),
            (words, "block block*; end from; from* block; known | end from\nknown from=10\nend: known block from end\n"
             + "from: block from end known\nfrom from block from end known .. *\nend"))


class BlockTest(unittest.TestCase):
    def test_there_and_back(self):
        blocks = some_blocks() + [WIDE, ROOMY, MIXED, EMPTY, chain(8, "h"), loose(8, LETTERS)]
        blocks += [block_by(3, number) for number in range(how_many_blocks(3))]
        for block in blocks:
            text = text_by_hand(block)
            self.assertEqual(block_text(block), text)
            self.assertEqual(block_text(listed(block)), text)
            self.assertEqual(block_in(text), block)

    def test_more_than_eight(self):
        names = [one + other for one in LETTERS for other in LETTERS]
        block = tuple((name, tuple(names[max(0, at - 3):at]), at % 2 == 0) for at, name in enumerate(names)), tuple(names)
        self.assertEqual(block_in(block_text(block)), block)

    def test_no_texts(self):
        for text in ("", "-", " ", "|", " | ", "- |", "| -", "-| -", "- |-", "- | ", " | -", "-  | -", "- |  -", " - | -",
                     "- | - ", "- | -\n", "\n- | -", "- | - | -", "- | - -", "- - | -", "-; - | -", "- | a", "a | b",
                     "a | a a", "a | a b", "b; a | -", "a; a | -", "a;b | -", "a ;b | -", "a ; b | -", "a;  b | -",
                     "a; b; | -", "a; b;  | -", "; a | -", "a* | -*", "a** | -", "*a | -", "* | -", "a * | -", "a *; b | -",
                     "a a | -", "a b | -", "a b; b a | -", "a; b a a | -", "a; b; c b a | -", "a; b a* | -", "a; b  a | -",
                     "a; b a  | -", "a | -a", "A | -", "abcdefghi | -", "a1 | -", "a-b | -", "a,b | -", "a; b | b a",
                     "a; b | a  b", "a; b | a b ", "a | - a", "a | a -", "a; - | -", "a - | -", "\xe9 | -", "a\t| -",
                     "a\n| -", "a | -\r", "a; b a\t | -", "a| -", "a |a", "a | *", "a*| -"):
            with self.subTest(text=text):
                self.assertRaises(BadText, block_in, text)

    def test_nearly_right_texts(self):
        # A text that is read is that of what it is read as; all else is refused.
        for text in ("a*; u a | u", "- | -", "a; b* a | b"):
            good = 0
            for at, sign in product(range(len(text) + 1), SIGNS):
                for changed in (text[:at] + sign + text[at:], text[:at] + sign + text[at + 1:], text[:at] + text[at + 1:]):
                    try:
                        block = block_in(changed)
                    except BadText as refused:
                        self.assertEqual(vars(refused), {})
                        continue
                    self.assertEqual(text_by_hand(block), changed)
                    good += 1
            self.assertGreater(good, 3)


class BoardTest(unittest.TestCase):
    def test_there_and_back(self):
        for board, text in known_boards():
            self.assertEqual(board_text(board), text)
            made = board_in(text)
            self.assertIsInstance(made, Board)
            self.assertEqual(made, board)
            self.assertEqual((made.block, made.known, made.names, made.frames),
                             (board.block, board.known, board.names, board.frames))
            self.assertEqual([made[name] for name in made.names], [board[name] for name in board.names])
            self.assertIs(made.undo(), False)
            self.assertEqual(made, board)

    def test_boards_of_many_blocks(self):
        for at, block in enumerate(some_blocks()[::7]):
            board = Board(block)
            orders = all_orders(block)
            for name, order in zip(LETTERS, orders[:: 1 + len(orders) // 5]):
                board[name] = order
                if at % 2:
                    board.frame(name, order if at % 3 else None, order if at % 5 else None)
            for name in slow_names(block)[at % 2:]:
                board.learn(name, 1 + at * 7)
            before = board.twin()
            text = board_text(board)
            self.assertEqual(board, before)
            self.assertEqual(board_in(text), board)
            self.assertEqual(board_text(board_in(text)), text)

    def test_read_board_goes_on(self):
        board = board_in(FULL)
        self.assertIsNone(board.learn("a", 9))
        board["new"] = FAR
        self.assertEqual((board.known, board.names), ((("a", 9), ("b", 3)), ("new", "one", "two", "x")))
        self.assertEqual([board.undo(), board.undo(), board.undo()], [True, True, False])
        self.assertEqual(board_text(board), FULL)

    def bad(self, text, number):
        with self.subTest(text=text):
            with self.assertRaises(BadLine) as caught:
                board_in(text)
            self.assertEqual(vars(caught.exception), {"number": number})

    def test_first_line(self):
        for line in ("", "block", "block ", "block -", "block b; a | -", "Block - | -", " block - | -", "block  - | -",
                     "block - | - ", "- | -", "known", "end", "blocks - | -", "block\t- | -"):
            for rest in ("", "\nknown\nend", "\nwrong\nend"):
                self.bad(line + rest, 0)

    def test_known_line(self):
        for line in ("", "known ", " known", "known a", "known a=", "known =5", "known a=0", "known a=05", "known a=+5",
                     "known a=-5", "known a=5 ", "known  a=5", "known a=5  b=3", "known b=3 a=5", "known a=5 a=6",
                     "known u=5", "known x=5", "known a=5=6", "known a==5", "known a =5", "known a=5,b=3", "Known",
                     "known a=\u0665", "known a=\xb2", "known a=5 u=3", "known a=1_0", "known a=5.", "end", "known a=5\r"):
            for rest in ("\nend", "", "\nwrong\nend"):
                self.bad("block a*; b*; u a; v b | u v\n" + line + rest, 1)
        for line, known in (("known a=5", (("a", 5),)), ("known b=10", (("b", 10),)), ("known a=1 b=2", (("a", 1), ("b", 2)))):
            self.assertEqual(board_in("block a*; b*; u a; v b | u v\n" + line + "\nend").known, known)

    def test_order_and_frame_lines(self):
        head = "block a*; b*; u a; v b | u v\nknown\nc: a u b v\ne: a b u v\n"
        for line in ("", " ", "e: a b u v", "d: a b u v", "c: a b u v", "f:", "f: ", "f: -", "f: *", "f: a b u", "f: u a b v",
                     "f: a b u v v", "f: a b u v ", "f:  a b u v", "f:a b u v", "f : a b u v", "f a b u v", ": a b u v",
                     "F: a b u v", "abcdefghi: a b u v", "f:: a b u v", "f: a b u x", "known", "block - | -", "end ",
                     " end", "End", "f1: a b u v", "f from * .. *", "d from * .. *", "c from", "c from ", "c from *",
                     "c from ..", "c from  .. ", "c from * ..", "c from .. *", "c from * .. * ", "c from *  .. *",
                     "c from * ..  *", "c  from * .. *", "c from *..*", "c from * .. * .. *", "c from a .. *",
                     "c from - .. *", "c from * .. -", "c from u a b v .. *", "c from * .. u a b v", "c from * .. a a b v",
                     "c from a b u v .. *", "e from * .. a u b v", "c from * .. * *", "c from * a .. *", "c: from * .. *",
                     "c From * .. *", "c from * ... *", "C from * .. *", "from * .. *", "c from a u b v ..a b u v",
                     "c: a u b v from * .. *"):
            for rest in ("\nend", "", "\nwrong\nend"):
                self.bad(head + line + rest, 4)
        for line in ("f: b a u v", "c from * .. *", "c from a u b v .. a b u v", "c from * .. a u b v", "e from a u b v .. *",
                     "c from b v a u .. *", "zzzzzzzz: a b v u"):
            self.assertEqual(board_text(board_in(head + line + "\nend")), head + line + "\nend")

    def test_behind_a_frame(self):
        head = "block a*; b*; u a; v b | u v\nknown\nc: a u b v\ne: a b u v\ng: a b u v\ne from * .. *\n"
        for line in ("h: a b u v", "f: a b u v", "e from * .. *", "c from * .. *", "h from * .. *", "known"):
            self.bad(head + line + "\nend", 6)
        self.assertEqual(board_in(head + "g from * .. *\nend").frames, (("e", None, None), ("g", None, None)))

    def test_last_line(self):
        lines = FULL.split("\n")
        for many in range(1, len(lines)):
            self.bad("\n".join(lines[:many]), many)
        for more in ("\n", "\n\n", "\nend", "\n ", "\nx", "\nz: a b u v"):
            self.bad(FULL + more, len(lines))
        self.bad("\n" + FULL, 0)
        self.bad("", 0)
        self.bad("block - | -\n", 1)
        self.bad("block - | -\nknown\n", 2)

    def test_without_instructions(self):
        head = "block - | -\nknown\nx: -\n"
        for line in ("y:", "y: ", "y: *", "x from", "x from  .. ", "y from - .. -", "x from - .. ", "x from a .. -"):
            self.bad(head + line + "\nend", 3)
        self.assertEqual(board_in(head + "x from - .. *\nend").frames, (("x", (), None),))

    def test_nearly_right_texts(self):
        text = "block a*; u a | u\nknown a=5\nx: a u\nx from a u .. *\nend"
        lines = text.split("\n")
        good = 0
        for number, line in enumerate(lines):
            for at, sign in product(range(len(line) + 1), SIGNS):
                for new in (line[:at] + sign + line[at:], line[:at] + sign + line[at + 1:], line[:at] + line[at + 1:]):
                    changed = "\n".join(lines[:number] + [new] + lines[number + 1:])
                    try:
                        board = board_in(changed)
                    except BadLine as refused:
                        # Only what is behind a line can be wrong because of it.
                        self.assertGreaterEqual(refused.number, number)
                        continue
                    self.assertEqual(board_text(board), changed)
                    good += 1
        self.assertGreater(good, 10)

    def test_great_numbers(self):
        number = 10 ** 3000 + 7
        text = f"block a* | a\nknown a={number}\nx: a\nend"
        self.assertEqual(board_in(text).end("x"), number)
        self.assertEqual(board_text(board_in(text)), text)


if __name__ == "__main__":
    unittest.main()
