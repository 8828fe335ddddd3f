"""[15]: a Board and its deeds."""

import unittest
from copy import deepcopy
from itertools import permutations, product

from anylatency.board import Board
from anylatency.errors import NoEntry, NoFrame, NoName, NoOrder, NotKnown, Outside, Stopped
from anylatency.issue import end_of
from anylatency.never import never_later
from tests.small import (LETTERS, MIXED, ROOMY, WIDE, all_orders, end_by_hand, few_blocks, gaps_by_hand, has_list,
                         listed, loose, meeting_by_hand, slow_names, some_blocks, turns)

EMPTY = ((), ())
GREAT = 10 ** 40
PLAIN, CLOSE, FAR, TURNED = ("a", "u", "b", "v"), ("a", "b", "u", "v"), ("a", "b", "v", "u"), ("b", "v", "a", "u")
REFUSALS = (NoEntry, NoFrame, NoName, NoOrder, NotKnown, Outside)


def is_above(block, one, other):
    """Whether one is never later than other, by GAPs and meetings."""
    ours, theirs = gaps_by_hand(block, one), gaps_by_hand(block, other)
    return (all(ours[name] >= theirs[name] for name in ours)
            and set(meeting_by_hand(block, one)) >= set(meeting_by_hand(block, other)))


class Model:
    """A Board told once more, with dicts, copies and names of refusals."""

    def __init__(self, block):
        self.block = block
        self.orders = all_orders(block)
        self.known = {}
        self.entries = {}
        self.frames = {}
        self.past = []

    def state(self):
        return deepcopy((self.known, self.entries, self.frames))

    def is_within(self, order, name):
        low, high = self.frames.get(name, (None, None))
        return ((low is None or is_above(self.block, order, low))
                and (high is None or is_above(self.block, high, order)))

    def do(self, word, *values):
        """Does a deed; tells (name of the refusal, what it keeps) if it is refused."""
        kept = self.state()
        refused = getattr(self, word)(*values)
        if refused:
            self.known, self.entries, self.frames = kept
        else:
            self.past.append(kept)
        return refused

    def learn(self, name, number):
        if name not in slow_names(self.block):
            return "NoName", name
        self.known[name] = number

    def forget(self, name):
        if name not in slow_names(self.block):
            return "NoName", name
        if name not in self.known:
            return "NotKnown", name
        del self.known[name]

    def set(self, name, order):
        if order not in self.orders:
            return "NoOrder", None
        if not self.is_within(order, name):
            return "Outside", name
        self.entries[name] = order

    def leave(self, name):
        if name not in self.entries:
            return "NoEntry", name
        del self.entries[name]
        self.frames.pop(name, None)

    def add(self, name, one, other):
        if name not in self.entries:
            return "NoEntry", name
        for part in (one, other):
            if part not in self.entries[name]:
                return "NoName", part
        row = list(self.entries[name])
        at, to = row.index(one), row.index(other)
        row[at], row[to] = row[to], row[at]
        return self.set(name, tuple(row))

    def frame(self, name, low, high):
        if name not in self.entries:
            return "NoEntry", name
        for end in (low, high):
            if end is not None and end not in self.orders:
                return "NoOrder", None
        self.frames[name] = low, high
        if not self.is_within(self.entries[name], name):
            return "Outside", name

    def lift(self, name):
        if name not in self.entries:
            return "NoEntry", name
        if name not in self.frames:
            return "NoFrame", name
        del self.frames[name]

    def attempt(self, deeds):
        for number, deed in enumerate(deeds):
            refused = getattr(self, deed[0])(*deed[1:])
            if refused:
                return "Stopped", (number,) + refused

    def undo(self):
        if not self.past:
            return False
        self.known, self.entries, self.frames = self.past.pop()
        return True


def do(board, word, *values):
    """Does a deed to a Board; tells what Model.do tells."""
    try:
        if word == "set":
            board[values[0]] = values[1]
        elif word == "add":
            board += (values[0], (values[1], values[2]))
        else:
            told = getattr(board, word)(*values)
            assert told is None, told
    except REFUSALS as refused:
        return refused.__class__.__name__, getattr(refused, "name", None)
    except Stopped as stopped:
        return "Stopped", (stopped.number, stopped.raised, stopped.value)
    return None


def some_deed(block, orders, told):
    """A deed, of whatever kind, that is sometimes refused."""
    names = [name for name, _, _ in block[0]] + ["x"]
    entry = ("one", "two", "a", "zzz")[next(told) % 4]
    wrong = (orders[0][::-1], orders[0] + ("x",), ())

    def some_order():
        pick = next(told) % (len(orders) + 1)
        return orders[pick] if pick < len(orders) else wrong[next(told) % 3]

    word = ("learn", "learn", "forget", "set", "set", "set", "add", "add", "frame", "frame", "lift",
            "leave")[next(told) % 12]
    if word == "learn":
        return word, names[next(told) % len(names)], 1 + next(told) % 9
    if word == "forget":
        return word, names[next(told) % len(names)]
    if word == "set":
        return word, entry, some_order()
    if word == "add":
        return word, entry, names[next(told) % len(names)], names[next(told) % len(names)]
    if word == "frame":
        return word, entry, some_order() if next(told) % 2 else None, some_order() if next(told) % 3 else None
    return word, entry


class BoardTest(unittest.TestCase):
    def same(self, board, model):
        block = model.block
        self.assertEqual(board.block, block)
        self.assertEqual(board.known, tuple(sorted(model.known.items())))
        self.assertEqual(board.names, tuple(sorted(model.entries)))
        self.assertEqual(len(board), len(model.entries))
        self.assertEqual(board.frames, tuple((name,) + model.frames[name] for name in sorted(model.frames)))
        lasts = tuple((name, model.known.get(name, 1)) for name in slow_names(block))
        ends = {name: end_by_hand(block, order, lasts) for name, order in model.entries.items()}
        for name, order in model.entries.items():
            self.assertEqual(board[name], order)
            self.assertIn(name, board)
            self.assertEqual(board.end(name), ends[name])
        self.assertEqual(board.first(), tuple(sorted(name for name in ends if ends[name] == min(ends.values()))))
        self.assertFalse(has_list((board.block, board.known, board.names, board.frames, board.first())))
        # A frame holds, whatever was done, undone or refused.
        for name, low, high in board.frames:
            self.assertTrue(low is None or never_later(block, board[name], low))
            self.assertTrue(high is None or never_later(block, high, board[name]))

    def same_relations(self, board, model):
        entries, block = model.entries, model.block
        for name, order in entries.items():
            self.assertEqual(board.above(name), tuple(sorted(
                other for other in entries if other != name and is_above(block, entries[other], order))))
            for other in model.orders[::1 + len(model.orders) // 8]:
                words = {(True, True): "alike", (True, False): "more", (False, True): "less", (False, False): "either"}
                word = words[is_above(block, other, order), is_above(block, order, other)]
                self.assertEqual(board.effect(name, other), word)
        self.assertEqual(board.doubled(), tuple(sorted(
            name for name in entries if any(other < name and is_above(block, entries[other], entries[name])
                                            and is_above(block, entries[name], entries[other])
                                            for other in entries))))

    def test_deeds(self):
        seen = {}
        told = turns(11)
        for block in [WIDE, ROOMY, MIXED, EMPTY] + [WIDE] * 9 + few_blocks(9) + some_blocks()[400::41]:
            board, model = Board(block), Model(block)
            for step in range(120):
                kind = next(told) % 10
                if kind < 6:
                    deed = some_deed(block, model.orders, told)
                elif kind < 8:
                    deed = ("attempt", tuple(some_deed(block, model.orders, told) for _ in range(next(told) % 4)))
                else:
                    self.assertIs(board.undo(), model.undo())
                    self.same(board, model)
                    continue
                before = board.twin()
                refused = do(board, *deed)
                self.assertEqual(refused, model.do(*deed))
                word = refused[0] if refused else None
                if word is not None:
                    self.assertEqual(board, before)
                    word = refused[1][1] if word == "Stopped" else word
                seen[deed[0], word] = seen.get((deed[0], word), 0) + 1
                self.same(board, model)
                if step % 30 == 7:
                    self.same_relations(board, model)
            while model.past:
                self.assertIs(board.undo(), model.undo())
                self.same(board, model)
            self.assertIs(board.undo(), False)
            self.assertEqual(board, Board(block))
        wanted = {("learn", "NoName"), ("forget", "NoName"), ("forget", "NotKnown"), ("set", "NoOrder"),
                  ("set", "Outside"), ("add", "NoEntry"), ("add", "NoName"), ("add", "NoOrder"), ("add", "Outside"),
                  ("frame", "NoEntry"), ("frame", "NoOrder"), ("frame", "Outside"), ("lift", "NoEntry"),
                  ("lift", "NoFrame"), ("leave", "NoEntry")}
        wanted |= {("attempt", refusal.__name__) for refusal in REFUSALS}
        wanted |= {(word, None) for word in ("learn", "forget", "set", "add", "frame", "lift", "leave", "attempt")}
        self.assertLessEqual(wanted, set(seen))

    def test_140_deeds_and_8_orders(self):
        block = loose(8, LETTERS)
        board = Board(block)
        for step in range(140):
            board["abcdefgh"[step % 8]] = tuple(LETTERS[step % 8:] + LETTERS[:step % 8])
        self.assertEqual((len(board), board.names), (8, tuple(LETTERS)))
        for name in LETTERS:
            board.learn(name, GREAT)
        self.assertEqual(board.end("a"), GREAT + 7)
        board.frame("a", None, board["a"])
        self.assertEqual(board.first(), tuple(LETTERS))
        for _ in range(149):
            self.assertIs(board.undo(), True)
        self.assertIs(board.undo(), False)
        self.assertEqual(len(board), 0)


class FormTest(unittest.TestCase):
    def test_first_state(self):
        for board, block in ((Board(), EMPTY), (Board(WIDE), WIDE), (Board(block=WIDE), WIDE), (Board(listed(WIDE)), WIDE)):
            self.assertEqual((board.block, board.known, board.names, board.frames), (block, (), (), ()))
            self.assertEqual((len(board), board.first(), board.doubled()), (0, (), ()))
            self.assertIs(board.undo(), False)
            self.assertNotIn("a", board)
            self.assertEqual(board, Board(block))

    def test_not_gone_through(self):
        board = Board(WIDE)
        board["a"] = PLAIN
        for ask in (iter, list, tuple, sorted, set, lambda one: [name for name in one], lambda one: (*one,)):
            self.assertRaises(TypeError, ask, board)

    def test_properties_are_not_set(self):
        board = Board(WIDE)
        for word in ("block", "known", "names", "frames"):
            self.assertIsInstance(getattr(Board, word), property)
            self.assertRaises(AttributeError, setattr, board, word, ())

    def test_arguments_are_copied(self):
        block, order, low = listed(WIDE), list(PLAIN), list(PLAIN)
        board = Board(block)
        board["one"] = order
        board.frame("one", low, None)
        deeds = [["set", "two", order], ["frame", "two", low, low]]
        kept = deepcopy((block, order, low, deeds))
        board.attempt(deeds)
        self.assertEqual((block, order, low, deeds), kept)
        block[0].clear()
        order.reverse()
        low.clear()
        deeds[0].clear()
        self.assertEqual((board.block, board["one"], board["two"]), (WIDE, PLAIN, PLAIN))
        self.assertEqual(board.frames, (("one", PLAIN, None), ("two", PLAIN, PLAIN)))
        self.assertIs(board.undo(), True)
        self.assertEqual(board.names, ("one",))

    def test_calls_by_names(self):
        board = Board(block=WIDE)
        board["one"] = PLAIN
        self.assertEqual((board.learn(name="a", number=5), board.end(name="one"), board.above(name="one")), (None, 8, ()))
        self.assertEqual((board.effect(name="one", order=CLOSE), board.forget(name="a")), ("more", None))
        self.assertIsNone(board.frame(name="one", low=None, high=CLOSE))
        self.assertIsNone(board.lift(name="one"))
        self.assertIsNone(board.attempt(deeds=(("leave", "one"),)))
        self.assertIs(board.undo(), True)
        self.assertIsNone(board.leave(name="one"))

    def test_lists_are_taken(self):
        board = Board(WIDE)
        board["one"] = list(PLAIN)
        board += ["one", ["u", "b"]]
        self.assertEqual(board["one"], CLOSE)
        self.assertEqual(board.effect("one", list(PLAIN)), "less")
        board.attempt([["add", "one", "u", "b"], ["frame", "one", None, list(CLOSE)]])
        self.assertEqual(board.frames, (("one", None, CLOSE),))
        with self.assertRaises(Stopped) as caught:
            board.attempt([["learn", "a", 3], ["set", "one", ["u"]]])
        self.assertEqual(vars(caught.exception), {"number": 1, "raised": "NoOrder", "value": None})

    def test_add_gives_the_same_board(self):
        board = Board(WIDE)
        board["one"] = PLAIN
        same = board
        board += ("one", ("u", "b"))
        self.assertIs(board, same)
        board += ("one", ("u", "u"))
        self.assertEqual(board["one"], CLOSE)
        self.assertIs(board.undo(), True)
        self.assertEqual(board["one"], CLOSE)
        self.assertIs(board.undo(), True)
        self.assertEqual(board["one"], PLAIN)


class EqualTest(unittest.TestCase):
    def test_equal(self):
        def made(*deeds):
            board = Board(WIDE)
            for deed in deeds:
                self.assertIsNone(do(board, *deed))
            return board

        one, framed = ("set", "one", PLAIN), ("frame", "one", None, None)
        every = [Board(), Board(ROOMY), made(), made(one), made(("set", "two", PLAIN)), made(("set", "one", CLOSE)),
                 made(("learn", "a", 3)), made(("learn", "a", 4)), made(("learn", "b", 3)), made(one, framed),
                 made(one, ("frame", "one", PLAIN, None)), made(one, ("frame", "one", None, PLAIN)),
                 made(one, ("set", "two", PLAIN))]
        for at, board in enumerate(every):
            for to, other in enumerate(every):
                self.assertIs(board == other, at == to)
                self.assertIs(board != other, at != to)
        # What was done on the way is no matter.
        self.assertEqual(made(("learn", "a", 3), ("forget", "a"), one, framed, ("lift", "one")), made(one))
        self.assertEqual(made(("set", "two", CLOSE), one, ("set", "two", PLAIN)), made(one, ("set", "two", PLAIN)))
        undone = made(one, ("learn", "a", 1))
        undone.undo()
        self.assertEqual(undone, made(one))

    def test_equals_nothing_else(self):
        class Likewise:
            def __eq__(self, other):
                return True

        for board in (Board(), Board(WIDE)):
            for thing in (None, 0, (), [], EMPTY, WIDE, "", Board, NoOrder(), True, object(), (board,)):
                self.assertIs(board == thing, False)
                self.assertIs(thing == board, False)
                self.assertIs(board != thing, True)
        self.assertIs(Board().__eq__(Likewise()), False)


class RefusedTest(unittest.TestCase):
    def setUp(self):
        self.board = Board(WIDE)
        self.board["one"] = PLAIN
        self.board["two"] = CLOSE
        self.board.learn("a", 5)
        self.board.frame("one", TURNED, CLOSE)
        self.twin = self.board.twin()

    def refused(self, error, kept, ask, *given):
        with self.assertRaises(error) as caught:
            ask(*given)
        self.assertIs(type(caught.exception), error)
        self.assertEqual(vars(caught.exception), kept)
        self.assertEqual(self.board, self.twin)

    def add(self, name, one, other):
        self.board += (name, (one, other))

    def test_each(self):
        board = self.board
        for ask, given in ((board.end, ()), (board.above, ()), (board.effect, (PLAIN,)), (board.effect, (("u",),)),
                           (board.leave, ()), (self.add, ("a", "b")), (self.add, ("x", "y")), (board.lift, ()),
                           (board.frame, (None, None)), (board.frame, (("u",), ("u",))), (board.__getitem__, ())):
            self.refused(NoEntry, {"name": "x"}, ask, "x", *given)
        for name in ("u", "x"):
            self.refused(NoName, {"name": name}, board.learn, name, 3)
            self.refused(NoName, {"name": name}, board.forget, name)
        self.refused(NotKnown, {"name": "b"}, board.forget, "b")
        for order in (("u", "a", "b", "v"), (), PLAIN[:3], PLAIN + ("x",)):
            self.refused(NoOrder, {}, board.effect, "one", order)
            self.refused(NoOrder, {}, board.__setitem__, "new", order)
            self.refused(NoOrder, {}, board.__setitem__, "one", order)
            self.refused(NoOrder, {}, board.frame, "one", order, None)
            self.refused(NoOrder, {}, board.frame, "one", FAR, order)
        self.refused(NoName, {"name": "x"}, self.add, "one", "x", "y")
        self.refused(NoName, {"name": "y"}, self.add, "one", "u", "y")
        self.refused(NoOrder, {}, self.add, "one", "a", "u")
        self.refused(Outside, {"name": "one"}, board.__setitem__, "one", FAR)
        self.refused(Outside, {"name": "one"}, board.frame, "one", CLOSE, None)
        self.refused(Outside, {"name": "two"}, board.frame, "two", None, PLAIN)
        self.refused(NoFrame, {"name": "two"}, board.lift, "two")
        self.refused(Stopped, {"number": 2, "raised": "NoFrame", "value": "two"}, board.attempt,
                     (("learn", "b", 3), ("leave", "one"), ("lift", "two"), ("lift", "x")))
        # Nothing of all this is a deed.
        self.assertIs(board.undo(), True)
        self.assertEqual(board.frames, ())

    def test_added_outside(self):
        self.board += ("one", ("u", "b"))
        self.assertEqual(self.board["one"], CLOSE)
        self.twin = self.board.twin()
        self.refused(Outside, {"name": "one"}, self.add, "one", "u", "v")
        self.add("two", "u", "v")
        self.assertEqual(self.board["two"], FAR)

    def test_frames(self):
        for low, high, order in product((None, PLAIN, CLOSE, FAR), (None, PLAIN, CLOSE, FAR), all_orders(WIDE)):
            board = Board(WIDE)
            board["one"] = order
            fits = (low is None or is_above(WIDE, order, low)) and (high is None or is_above(WIDE, high, order))
            self.assertEqual(do(board, "frame", "one", low, high), None if fits else ("Outside", "one"))
            self.assertEqual(board.frames, (("one", low, high),) if fits else ())
            for other in all_orders(WIDE) if fits else ():
                twin = board.twin()
                inside = ((low is None or is_above(WIDE, other, low))
                          and (high is None or is_above(WIDE, high, other)))
                self.assertEqual(do(twin, "set", "one", other), None if inside else ("Outside", "one"))
                self.assertEqual(twin["one"], other if inside else order)

    def test_a_frame_stays_until_it_goes(self):
        board = self.board
        board.leave("one")
        self.assertEqual(board.frames, ())
        board["one"] = FAR
        self.assertEqual((board["one"], board.frames), (FAR, ()))
        refused = do(board, "lift", "one")
        self.assertEqual(refused, ("NoFrame", "one"))
        self.assertIs(board.undo(), True)
        self.assertIs(board.undo(), True)
        self.assertEqual(board, self.twin)
        self.assertEqual(board.frames, (("one", TURNED, CLOSE),))


class UndoTest(unittest.TestCase):
    def test_attempt_is_one_deed(self):
        board = Board(WIDE)
        board.attempt((("set", "one", PLAIN), ("learn", "a", 3), ("add", "one", "u", "b"), ("forget", "a")))
        self.assertEqual((board["one"], board.known), (CLOSE, ()))
        board.attempt(())
        self.assertIs(board.undo(), True)
        self.assertEqual(board["one"], CLOSE)
        self.assertIs(board.undo(), True)
        self.assertEqual(board, Board(WIDE))
        self.assertIs(board.undo(), False)

    def test_what_changes_nothing_is_a_deed(self):
        board = Board(WIDE)
        board["one"] = PLAIN
        board["one"] = PLAIN
        board.learn("a", 1)
        board.learn("a", 1)
        board.frame("one", None, None)
        board.frame("one", None, None)
        self.assertEqual([board.undo() for _ in range(7)], [True] * 6 + [False])
        self.assertEqual(board, Board(WIDE))

    def test_twin(self):
        board = Board(WIDE)
        board["one"] = PLAIN
        board.learn("a", 3)
        twin = board.twin()
        self.assertIsInstance(twin, Board)
        self.assertIsNot(twin, board)
        self.assertEqual(twin, board)
        twin.learn("a", 9)
        board["two"] = CLOSE
        self.assertEqual((board.known, twin.known, board.names, twin.names),
                         ((("a", 3),), (("a", 9),), ("one", "two"), ("one",)))
        self.assertEqual([twin.undo() for _ in range(4)], [True, True, True, False])
        self.assertEqual(board.names, ("one", "two"))
        self.assertEqual([board.undo() for _ in range(4)], [True, True, True, False])
        self.assertEqual(board.twin(), Board(WIDE))

    def test_undo_and_deeds_again(self):
        board = Board(WIDE)
        board.learn("a", 3)
        board.learn("b", 4)
        self.assertIs(board.undo(), True)
        board.learn("b", 5)
        self.assertEqual(board.known, (("a", 3), ("b", 5)))
        self.assertIs(board.undo(), True)
        self.assertEqual(board.known, (("a", 3),))
        self.assertIs(board.undo(), True)
        self.assertIs(board.undo(), False)


class AboveTest(unittest.TestCase):
    def test_whatever_is_known(self):
        board = Board(WIDE)
        for name, order in zip(("one", "two", "six"), (PLAIN, CLOSE, FAR)):
            board[name] = order
        told = [board.above(name) for name in board.names]
        for number in (1, 7, GREAT):
            board.learn("a", number)
            self.assertEqual([board.above(name) for name in board.names], told)
        self.assertEqual(board.end("one"), end_of(WIDE, PLAIN, (("a", GREAT), ("b", 1))))

    def test_all_orders_of_a_block(self):
        orders = all_orders(ROOMY)[::5][:8]
        board = Board(ROOMY)
        for name, order in zip(LETTERS, orders):
            board[name] = order
        for name, order in zip(LETTERS, orders):
            told = tuple(other for other, one in zip(LETTERS, orders) if other != name and never_later(ROOMY, one, order))
            self.assertEqual(board.above(name), told)
        twice = Board(WIDE)
        for name, order in zip(permutations("abc"), (CLOSE, FAR, ("b", "a", "v", "u"), CLOSE)):
            twice["".join(name)] = order
        self.assertEqual(twice.doubled(), ("bac", "bca"))


if __name__ == "__main__":
    unittest.main()
