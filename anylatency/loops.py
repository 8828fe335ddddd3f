"""LOOPs: one ORDER round by round, what is waited for across rounds, and all numbers of rounds."""

from math import gcd

from anylatency.blocks import awaited_in, is_block, names_in
from anylatency.never import meet_changes, never_later, slow_ones
from anylatency.plain import ascends, check_names, is_name, is_tuple_of, told_order, tupled
from anylatency.rounds import block_of_rounds, order_of_rounds, round_table, table_again, table_behind
from anylatency.rounds import ticks_by, told_by_word, word_in_round
from anylatency.waits import gap_of, meeting


def is_loop(thing):
    """Tell whether thing is a LOOP, of however many instructions."""
    if not is_tuple_of(thing, 2) or not is_block(thing[0]) or not isinstance(thing[1], tuple):
        return False
    known = {name: True for name in names_in(thing[0])}
    if not all([is_tuple_of(pair, 2) and is_name(pair[0]) and is_name(pair[1]) for pair in thing[1]]):
        return False
    return ascends(thing[1]) and all([one in known for pair in thing[1] for one in pair])


def carried_readers(loop, name):
    """Give the set of those that read this instruction, carried."""
    block, carried = tupled(loop)
    check_names(names_in(block), (name,))
    return tuple([reader for one, reader in carried if one == name])


def awaited_in_rounds(loop):
    """Give the pair of the sets of the slow ones awaited in a round that is not the last, and in the last one."""
    told = tupled(loop)
    names = names_in(told[0])
    words = awaited_in(block_of_rounds(told, 2))
    pairs = [told_by_word(names, word) for word in words]
    return tuple([name for at, name in pairs if at == 0]), tuple([name for at, name in pairs if at == 1])


def _told_loop(loop, orders):
    """Give the loop with tuples for lists; raise NoOrder() if one of the orders is none of its BLOCK."""
    told = tupled(loop)
    for order in orders:
        told_order(told[0], order)
    return told


def round_gap(loop, order, name, last):
    """Give the GAP of this slow one in the last round (last is True) or in another one; None if it is not awaited."""
    told = _told_loop(loop, (order,))
    names = names_in(told[0])
    check_names(names, (name,))
    word = word_in_round(names, 1 if last else 0, name)
    return gap_of(block_of_rounds(told, 2), order_of_rounds(told, order, 2), word)


def joint_meeting(loop, order):
    """Give the set of the pairs (s, t) such that s in a round meets t in the next round, neither of them the last."""
    told = _told_loop(loop, (order,))
    names = names_in(told[0])
    pairs = meeting(block_of_rounds(told, 3), order_of_rounds(told, order, 3))
    ends = [(told_by_word(names, one), told_by_word(names, other)) for one, other in pairs]
    return tuple([(one[1], other[1]) for one, other in ends if (one[0], other[0]) == (0, 1)])


def rounds_end(loop, order, latencies, rounds):
    """Give the END if each slow one takes in each round what the LATENCIES tell."""
    told = _told_loop(loop, (order,))
    table = round_table(told, order, dict(tupled(latencies)))
    return _end_by(told, table_again(table, rounds))


def _end_by(loop, table):
    """Give the END if this table tells what all rounds do."""
    block, _ = loop
    names = names_in(block)
    ticks = ticks_by(table)
    return max([ticks[0]] + [ticks[1 + names.index(name)] for name in block[1]])


def pace(loop, order, latencies):
    """Give the pair (top, bottom), in lowest terms, of how many ticks a round takes in the long run."""
    told = _told_loop(loop, (order,))
    table = round_table(told, order, dict(tupled(latencies)))
    top, bottom = 0, 1
    behind = table
    # What grows fastest comes back to itself within as many rounds as there are rows, and grows by the most a round.
    for rounds in range(1, len(table) + 1):
        for at, row in enumerate(behind):
            if row[at] is not None and row[at] * bottom > top * rounds:
                top, bottom = row[at], rounds
        behind = table_behind(table, behind)
    shared = gcd(top, bottom)
    return top // shared, bottom // shared


def loop_never_later(loop, one, other):
    """Tell whether one never ends later than other, FOR ALL latencies and ALL numbers of rounds."""
    return first_later(loop, one, other) is None


def loop_alike(loop, one, other):
    """Tell whether both always end at the same tick."""
    return loop_never_later(loop, one, other) and loop_never_later(loop, other, one)


def first_later(loop, one, other):
    """Give the least number of rounds with which one can end later than other; None if it never does."""
    told = _told_loop(loop, (one, other))
    # All rounds and neighbours of rounds that there are stand within three.
    for rounds in range(1, 4):
        block, ours, theirs = _in_rounds(told, one, other, rounds)
        if not never_later(block, ours, theirs):
            return rounds
    return None


def _in_rounds(loop, one, other, rounds):
    """Give a triple of the BLOCK of so many rounds and of both orders in it."""
    return block_of_rounds(loop, rounds), order_of_rounds(loop, one, rounds), order_of_rounds(loop, other, rounds)


def loop_slow_ones(loop, one, other):
    """Give the least of the smallest sets of pairs (round, NAME) that alone make one later with first_later rounds."""
    rounds = first_later(loop, one, other)
    if rounds is None:
        return None
    told = tupled(loop)
    block, ours, theirs = _in_rounds(told, one, other, rounds)
    return tuple([told_by_word(names_in(told[0]), word) for word in slow_ones(block, ours, theirs)])


def loop_later_by(loop, one, other, rounds):
    """Give by how many ticks one ends later than other at the most with so many rounds; None if there is no most."""
    told = _told_loop(loop, (one, other))
    block, ours, theirs = _in_rounds(told, one, other, min(rounds, 3))
    if meet_changes(block, ours, theirs)[1]:
        return None
    # As in a BLOCK by itself: one ends latest beside other if each slow one has its GAP in other as its STALL.
    each = round_table(told, one, _lasts_by_gaps(told, other, False))
    last = round_table(told, one, _lasts_by_gaps(told, other, True))
    return _end_by(told, table_behind(last, table_again(each, rounds - 1))) - len(one) * rounds


def _lasts_by_gaps(loop, order, last):
    """Give a dict with 1 more than the GAP of each slow one that is awaited in the last round, or in another one."""
    found = {}
    for name in order:
        gap = round_gap(loop, order, name, last)
        if gap is not None:
            found[name] = gap + 1
    return found
