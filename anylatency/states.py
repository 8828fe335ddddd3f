"""States of a Board, and what the deeds make of them: tuples (block, known, orders, frames) that never change."""

from anylatency.blocks import names_in, slow_in
from anylatency.errors import NoEntry, NoFrame, NoName, NoOrder, NotKnown, Outside, Stopped
from anylatency.never import never_later
from anylatency.plain import check_names, told_order


def order_in(state, name):
    """Give the ORDER of this NAME; raise NoEntry if there is none."""
    for one, order in state[2]:
        if one == name:
            return order
    raise NoEntry(name)


def _put(entries, entry):
    """Give the entries with this one, in the place of that of its NAME if there is one."""
    return tuple(sorted([one for one in entries if one[0] != entry[0]] + [entry]))


def _taken(entries, name):
    """Give the entries but that of this NAME."""
    return tuple([one for one in entries if one[0] != name])


def learned(state, name, number):
    """Give the state in which the latency of this slow one is known to be this number."""
    block, known, orders, frames = state
    check_names(slow_in(block), (name,))
    return block, _put(known, (name, number)), orders, frames


def forgotten(state, name):
    """Give the state in which nothing is known of this slow one."""
    block, known, orders, frames = state
    check_names(slow_in(block), (name,))
    left = _taken(known, name)
    if left == known:
        raise NotKnown(name)
    return block, left, orders, frames


def ordered(state, name, order):
    """Give the state in which this is the ORDER of this NAME."""
    block, known, orders, frames = state
    told = told_order(block, order)
    for one, low, high in frames:
        if one == name:
            _check_within(block, name, told, low, high)
    return block, known, _put(orders, (name, told)), frames


def _check_within(block, name, order, low, high):
    """Raise Outside if this ORDER, of this NAME, is not above low, or high not above it."""
    if low is not None and not never_later(block, order, low):
        raise Outside(name)
    if high is not None and not never_later(block, high, order):
        raise Outside(name)


def left_out(state, name):
    """Give the state without the ORDER of this NAME and without its frame."""
    block, known, orders, frames = state
    order_in(state, name)
    return block, known, _taken(orders, name), _taken(frames, name)


def added(state, name, one, other):
    """Give the state in which these two instructions have changed places in the ORDER of this NAME."""
    order = order_in(state, name)
    check_names(names_in(state[0]), (one, other))
    turned = {one: other, other: one}
    return ordered(state, name, [turned.get(part, part) for part in order])


def framed(state, name, low, high):
    """Give the state in which the ORDER of this NAME has this frame."""
    block, known, orders, frames = state
    order = order_in(state, name)
    ends = [None if end is None else told_order(block, end) for end in (low, high)]
    _check_within(block, name, order, ends[0], ends[1])
    return block, known, orders, _put(frames, (name, ends[0], ends[1]))


def lifted(state, name):
    """Give the state in which the ORDER of this NAME has no frame."""
    block, known, orders, frames = state
    order_in(state, name)
    left = _taken(frames, name)
    if left == frames:
        raise NoFrame(name)
    return block, known, orders, left


DEEDS = {"learn": learned, "forget": forgotten, "set": ordered, "leave": left_out, "add": added, "frame": framed,
         "lift": lifted}


def attempted(state, deeds):
    """Give the state that all these deeds lead to; raise Stopped for the first one that is refused."""
    told = state
    for number, deed in enumerate(deeds):
        told = _after(told, number, deed)
    return told


def _after(state, number, deed):
    """Give the state that this deed leads to; raise Stopped with its number if it is refused."""
    action = DEEDS[deed[0]]
    values = deed[1:]
    try:
        return action(state, *values)
    except NoOrder:
        raise Stopped(number, "NoOrder", None) from None
    except NoName as unnamed:
        raise Stopped(number, "NoName", unnamed.name) from None
    except NoEntry as missed:
        raise Stopped(number, "NoEntry", missed.name) from None
    except NoFrame as open_one:
        raise Stopped(number, "NoFrame", open_one.name) from None
    except NotKnown as unknown:
        raise Stopped(number, "NotKnown", unknown.name) from None
    except Outside as outer:
        raise Stopped(number, "Outside", outer.name) from None
