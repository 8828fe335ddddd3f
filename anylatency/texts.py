"""BLOCKs and Boards in lines."""

from anylatency.blocks import is_block, is_order, slow_in
from anylatency.board import board_of
from anylatency.errors import BadLine, BadText, NoEntry, NoOrder, Outside
from anylatency.plain import ascends, is_name, tupled
from anylatency.states import framed


def block_text(block):
    """Give the text of this BLOCK."""
    rows, live = tupled(block)
    told = [" ".join([name + "*" if slow else name] + list(reads)) for name, reads, slow in rows]
    return ("; ".join(told) or "-") + " | " + names_text(live)


def names_text(names):
    """Give the names with one blank between two, or - for none."""
    return " ".join(list(names)) or "-"


def block_in(text):
    """Give the BLOCK with just this text; raise BadText if there is none."""
    rows, _, live = text.partition(" | ")
    block = (() if rows == "-" else tuple([_row_in(part) for part in rows.split("; ")]),
             () if live == "-" else tuple(live.split(" ")))
    # Cut at single blanks just as they are put together: a text that is not so written leaves what is no NAME.
    if not is_block(block):
        raise BadText()
    return block


def _row_in(text):
    """Give the triple that this text tells if it is that of a row."""
    words = text.split(" ")
    slow = words[0].endswith("*")
    return words[0][:-1] if slow else words[0], tuple(words[1:]), slow


def board_text(board):
    """Give the lines of this Board."""
    lines = ["block " + block_text(board.block)]
    lines.append(" ".join(["known"] + [f"{name}={number}" for name, number in board.known]))
    for name in board.names:
        lines.append(name + ": " + names_text(board[name]))
    for name, low, high in board.frames:
        lines.append(name + " from " + _end_text(low) + " .. " + _end_text(high))
    return "\n".join(lines + ["end"])


def _end_text(order):
    """Give the text of one end of a frame."""
    return "*" if order is None else names_text(order)


# What is read from words is a tuple of what they tell, and () if they tell nothing of the kind.


def number_from(words):
    """Read a number from 1."""
    if len(words) != 1 or not words[0].isascii() or not words[0].isdigit() or words[0].startswith("0"):
        return ()
    return (int(words[0]),)


def order_from(words):
    """Read unlike NAMEs, or - for none."""
    if words == ["-"]:
        return ((),)
    if not words or not all([is_name(word) for word in words]) or len(set(words)) < len(words):
        return ()
    return (tuple(words),)


def frame_from(words):
    """Read both ends of a frame, behind the word from."""
    if words[:1] != ["from"] or words.count("..") != 1:
        return ()
    at = words.index("..")
    found = _end_from(words[1:at]) + _end_from(words[at + 1:])
    return found if len(found) == 2 else ()


def _end_from(words):
    """Read one end of a frame."""
    return (None,) if words == ["*"] else order_from(words)


def state_from(line):
    """Read the state of a Board from the line that tells its BLOCK."""
    if not line.startswith("block "):
        return ()
    try:
        return block_in(line[len("block "):]), (), (), ()
    except BadText:
        return ()


def board_in(text):
    """Give the Board with this text; raise BadLine for the first line that is wrong, or for the last one missing."""
    state = ()
    lines = text.split("\n")
    for number, line in enumerate(lines):
        if number > 1 and line == "end":
            _check_last(lines, number)
            return board_of(state)
        state = _state_behind(state, number, line)
        if not state:
            raise BadLine(number)
    raise BadLine(len(lines))


def _check_last(lines, number):
    """Raise BadLine if there is a line behind that of this number."""
    if number + 1 < len(lines):
        raise BadLine(number + 1)


def _state_behind(state, number, line):
    """Give the state with what the line of this number tells; () if it is wrong."""
    words = line.split(" ")
    if number == 0:
        return state_from(line)
    if number == 1:
        return _with_known(state, words)
    if words[0].endswith(":"):
        return _with_order(state, words)
    return _with_frame(state, words)


def _with_known(state, words):
    """Give the state with what the line of what is known tells; () if it is wrong."""
    block, _, orders, frames = state
    parts = [word.partition("=") for word in words[1:]]
    names = [part[0] for part in parts]
    numbers = [number_from([part[2]]) for part in parts]
    if words[0] != "known" or not all(numbers) or not ascends(names):
        return ()
    slow = slow_in(block)
    if not all([name in slow for name in names]):
        return ()
    return block, tuple([(name, number[0]) for name, number in zip(names, numbers)]), orders, frames


def _with_order(state, words):
    """Give the state with the ORDER that this line tells; () if it is wrong."""
    block, known, orders, frames = state
    name = words[0][:-1]
    found = order_from(words[1:])
    if not is_name(name) or not found or frames or not is_order(block, found[0]):
        return ()
    if orders and name <= orders[-1][0]:
        return ()
    return block, known, orders + ((name, found[0]),), frames


def _with_frame(state, words):
    """Give the state with the frame that this line tells; () if it is wrong."""
    frames = state[3]
    found = frame_from(words[1:])
    if not found or frames and words[0] <= frames[-1][0]:
        return ()
    try:
        return framed(state, words[0], found[0], found[1])
    except (NoEntry, NoOrder, Outside):
        return ()
