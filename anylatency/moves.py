"""Neighbours of an ORDER exchanged, instructions moved, free ways, and pauses."""

from anylatency.blocks import awaited_in, is_order, names_in
from anylatency.errors import Needs, NoNumber, Twice
from anylatency.issue import end_of
from anylatency.never import compare, gap_changes, never_later
from anylatency.plain import check_names, is_number, reads_by_name, told_order, tupled
from anylatency.spans import end_by, stalls_in, waits_in


def exchanged(block, order, place):
    """Give the ORDER with the instructions at this place and at the next one exchanged."""
    block = tupled(block)
    told = told_order(block, order)
    if not 0 <= place < len(told) - 1:
        raise NoNumber(place)
    if told[place] in reads_by_name(block[0])[told[place + 1]]:
        raise Needs()
    return _turned(told, place)


def _turned(order, place):
    """Give the order with what stands at this place and at the next one exchanged."""
    return order[:place] + (order[place + 1], order[place]) + order[place + 2:]


def effect(block, order, place):
    """Tell by a word how the ORDER that comes by this exchange is beside this one."""
    return compare(block, exchanged(block, order, place), order)


def gap_effects(block, order, place):
    """Give the pairs (NAME, by how much its GAP changes) of the awaited ones whose GAPs this exchange changes."""
    return gap_changes(block, exchanged(block, order, place), order)


def free_places(block, order):
    """Give the set of the places at which an exchange leads to an ORDER that is never later."""
    block = tupled(block)
    return tuple(_places_free(reads_by_name(block[0]), awaited_in(block), told_order(block, order)))


def _places_free(reads, awaited, order):
    """Give the ascending list of the places of this ORDER at which an exchange is free."""
    found = []
    read = {}
    for place in range(len(order) - 1):
        one, other = order[place], order[place + 1]
        for name in reads[one]:
            read[name] = True
        ended = [name for name in reads[other] if name in awaited and name not in read]
        # Just the GAP of one and the GAPs that end with other become less.
        if one not in awaited and not ended and one not in reads[other]:
            found.append(place)
    return found


def better_places(block, order):
    """Give the set of the free places at which the exchange leads to a better ORDER."""
    return tuple([place for place in free_places(block, order) if effect(block, order, place) == "better"])


def climbed(block, order):
    """Give the ORDER that comes if the exchange at the least better place is done as long as there is one."""
    told = tupled(order)
    places = better_places(block, told)
    while places:
        told = exchanged(block, told, places[0])
        places = better_places(block, told)
    return told


def moved(block, order, name, place):
    """Give the ORDER in which this instruction stands at this place, and all others as they stood."""
    block = tupled(block)
    told = told_order(block, order)
    check_names(names_in(block), (name,))
    if not 0 <= place < len(told):
        raise NoNumber(place)
    new = _put(told, name, place)
    if not is_order(block, new):
        raise Needs()
    return new


def _put(order, name, place):
    """Give the order with name at this place, and all others one behind another as they stood."""
    left = tuple([one for one in order if one != name])
    return left[:place] + (name,) + left[place:]


def places_for(block, order, name):
    """Give the set of the places to which this instruction can be moved, its own one too."""
    block = tupled(block)
    told = told_order(block, order)
    check_names(names_in(block), (name,))
    return tuple([place for place in range(len(told)) if is_order(block, _put(told, name, place))])


def free_for(block, order, name):
    """Give the set of the places to which this instruction can be moved so that the ORDER is never later."""
    places = places_for(block, order, name)
    return tuple([place for place in places if never_later(block, moved(block, order, name, place), order)])


def free_way(block, one, other):
    """Give a tuple of as few places as can be whose free exchanges lead from one to other; None if none does."""
    # What free exchanges lead to is never later: so there is often nothing to search for.
    if not never_later(block, other, one):
        return None
    reads, awaited = reads_by_name(tupled(block)[0]), awaited_in(block)
    start, goal = tupled(one), tupled(other)
    ways = {start: ()}
    reached = [start]
    while reached and goal not in ways:
        ahead = []
        for order in reached:
            for place in _places_free(reads, awaited, order):
                new = _turned(order, place)
                if new not in ways:
                    ways[new] = ways[order] + (place,)
                    ahead.append(new)
        reached = ahead
    return ways.get(goal)


def fewest_free(block, one, other):
    """Tell how many free exchanges lead from one to other at least; None if none do."""
    way = free_way(block, one, other)
    return None if way is None else len(way)


def is_free_way(block, one, other, thing):
    """Tell whether thing is a tuple of places whose free exchanges lead from one to other."""
    block = tupled(block)
    order, goal = told_order(block, one), told_order(block, other)
    if not isinstance(thing, tuple):
        return False
    reads, awaited = reads_by_name(block[0]), awaited_in(block)
    for place in thing:
        if not is_number(place) or place not in _places_free(reads, awaited, order):
            return False
        order = _turned(order, place)
    return order == goal


def paused(block, order, name, place):
    """Give the BLOCK and the ORDER with one quick instruction more, which stands at this place, alone."""
    rows, live = tupled(block)
    told = told_order((rows, live), order)
    if name in told:
        raise Twice(name)
    _check_between(told, place)
    return (tuple(sorted(rows + ((name, (), False),))), live), _put(told, name, place)


def _check_between(order, place):
    """Raise NoNumber if there is no such place for one instruction more."""
    if not 0 <= place <= len(order):
        raise NoNumber(place)


def hidden_under(block, order, place):
    """Give the set of the awaited ones behind which, and ahead of whose first readers, a pause at this place is."""
    waits = waits_in(block, order)
    _check_between(order, place)
    return tuple([name for name in waits if waits[name][0] < place <= waits[name][1]])


def pause_cost(block, order, place, latencies):
    """Tell by how much END is more with a pause at this place."""
    waits = waits_in(block, order)
    _check_between(order, place)
    later = {name: tuple([at + 1 if at >= place else at for at in waits[name]]) for name in waits}
    return end_by(len(order) + 1, later, stalls_in(latencies)) - end_of(block, order, latencies)
