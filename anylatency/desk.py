"""A desk: requests in lines, done one after another to a Board."""

from anylatency.board import board_of
from anylatency.errors import BadLine, NoEntry, NoOrder, Stopped
from anylatency.plain import is_name
from anylatency.texts import frame_from, names_text, number_from, order_from, state_from

# How many NAMEs stand behind the word of a request.
NAMES = {"learn": 1, "forget": 1, "order": 1, "leave": 1, "lift": 1, "add": 3, "frame": 1, "end": 1, "first": 0,
         "above": 1, "doubled": 0, "effect": 1, "undo": 0}
# The words that deeds have in an attempt.
DEEDS = {"learn": "learn", "forget": "forget", "order": "set", "leave": "leave", "lift": "lift", "add": "add",
         "frame": "frame"}


def answers(text):
    """Give the list of the answers to the requests of this text."""
    if text == "":
        return []
    lines = text.split("\n")
    state = state_from(lines[0])
    if not state:
        raise BadLine(0)
    requests = []
    for number, line in enumerate(lines[1:]):
        requests.append(_request(line))
        if not requests[-1]:
            raise BadLine(number + 1)
    board = board_of(state)
    return ["done"] + [_answer(board, request[0], request[1:]) for request in requests]


def _request(line):
    """Give the tuple of the word of this request and of what is behind it; () if it is none."""
    words = line.split(" ")
    if words[0] not in NAMES:
        return ()
    many = 1 + NAMES[words[0]]
    told, rest = tuple(words[:many]), words[many:]
    if len(told) < many or not all([is_name(word) for word in told]):
        return ()
    if words[0] not in ("learn", "order", "effect", "frame"):
        return () if rest else told
    found = _read_behind(words[0], rest)
    return told + found if found else ()


def _read_behind(word, rest):
    """Give the tuple of what the rest of a request with this word tells; () if it tells nothing of the kind."""
    if word == "learn":
        return number_from(rest)
    return frame_from(rest) if word == "frame" else order_from(rest)


def _answer(board, word, values):
    """Give the answer to this request."""
    try:
        if word in DEEDS:
            board.attempt(((DEEDS[word],) + values,))
            return "done"
        return _told(board, word, values)
    except Stopped as stopped:
        return "refused " + stopped.raised
    except NoEntry:
        return "refused NoEntry"
    except NoOrder:
        return "refused NoOrder"


def _told(board, word, values):
    """Give the answer to a request that is no deed."""
    if word == "undo":
        return "yes" if board.undo() else "no"
    if word == "first":
        return names_text(board.first())
    if word == "doubled":
        return names_text(board.doubled())
    if word == "above":
        return names_text(board.above(values[0]))
    if word == "end":
        return str(board.end(values[0]))
    return board.effect(values[0], values[1])
