"""Which ORDERs are best: KEYs, those that are never beaten, regrets, and the safest ones."""

from anylatency.apart import greatest_gap, meetable
from anylatency.blocks import awaited_in, is_order
from anylatency.never import compare
from anylatency.plain import told_order, tupled
from anylatency.spans import adding_sets, gap_in, pairs_that_meet, waits_by_order, waits_in


def key_of(block, order):
    """Give the KEY of this ORDER: the pair of its GAPs and of those that meet."""
    return _key_by(waits_in(block, order))


def _key_by(waits):
    """Give the KEY that these WAITs make."""
    return tuple([(name, gap_in(waits[name])) for name in waits]), tuple(pairs_that_meet(waits))


def _keys(block):
    """Give a dict with the KEY of each ORDER, the ORDERs ascending."""
    waits = waits_by_order(block)
    return {order: _key_by(waits[order]) for order in waits}


def classes(block):
    """Give the ascending list of the KEYs of all ORDERs."""
    return sorted(set(list(_keys(block).values())))


def orders_of(block, key):
    """Give the ascending list of the ORDERs with this KEY."""
    told = tupled(key)
    keys = _keys(block)
    return [order for order in keys if keys[order] == told]


def how_many_in(block, key):
    """Tell how many ORDERs have this KEY."""
    return len(orders_of(block, key))


def _is_above(one, other):
    """Tell whether the ORDERs with KEY one are never later than those with KEY other."""
    if not all([ours[1] >= theirs[1] for ours, theirs in zip(one[0], other[0])]):
        return False
    return all([pair in one[1] for pair in other[1]])


def _weight(key):
    """Give a number that is greater for a KEY than for any other one that it is above."""
    return sum([gap for _, gap in key[0]]) + len(key[1])


def _beating(block, key):
    """Give the list of the KEYs of the ORDERs that beat those with this KEY."""
    return [other for other in classes(block) if other != key and _is_above(other, key)]


def is_never_beaten(block, order):
    """Tell whether no ORDER is never later than this one and not alike to it."""
    return not _beating(block, key_of(block, order))


def never_beaten(block):
    """Give the ascending list of the KEYs of the ORDERs that are not beaten."""
    found = []
    # The greatest weights first: what beats a KEY stands ahead of it, and some of what does is not beaten itself.
    for key in sorted(classes(block), key=_weight, reverse=True):
        if not _has_above(found, key):
            found.append(key)
    return sorted(found)


def _has_above(keys, key):
    """Tell whether one of the keys is above this one."""
    for other in keys:
        if _is_above(other, key):
            return True
    return False


def beaten_by(block, order):
    """Give an ORDER that is not beaten, never later than this one and not alike to it; None if there is none."""
    beating = _beating(block, key_of(block, order))
    # What beats the one with the greatest weight would have a greater one, and beat this ORDER, too.
    return orders_of(block, max(beating, key=_weight))[0] if beating else None


def is_beaten_by(block, order, thing):
    """Tell whether thing is an ORDER that is not beaten, never later than this one and not alike to it."""
    told = told_order(tupled(block), order)
    if not is_order(block, thing) or not is_never_beaten(block, thing):
        return False
    return compare(block, thing, told) == "better"


def best(block):
    """Give an ORDER that is never later than any ORDER of the BLOCK; None if there is none."""
    found = orders_of(block, _top_key(block))
    return found[0] if found else None


def _top_key(block):
    """Give the KEY with each greatest GAP and all that can meet: that of no ORDER, or of those never later than any."""
    return tuple([(name, greatest_gap(block, name)) for name in awaited_in(block)]), meetable(block)


def is_best(block, thing):
    """Tell whether thing is an ORDER that is never later than any ORDER of the BLOCK."""
    return is_order(block, thing) and key_of(block, thing) == _top_key(block)


def regret(block, order):
    """Give the greatest number by which this ORDER can end later than any other one; None if there is none."""
    return _regrets(block)[key_of(block, order)]


def _regrets(block):
    """Give a dict with the regret of the ORDERs with each KEY, None where there is none."""
    waits = waits_by_order(block)
    keys = {order: _key_by(waits[order]) for order in waits}
    # One that parts two who meet by some ORDER has no regret; so all others have the same sets that add up.
    bound = meetable(block)
    full = [order for order in keys if keys[order][1] == bound]
    sets = adding_sets(waits[full[0]]) if full else []
    found = {keys[order]: None for order in keys}
    most = {some: max([_gaps_of(key, some) for key in found]) for some in sets}
    for order in full:
        found[keys[order]] = max([most[some] - _gaps_of(keys[order], some) for some in sets])
    return found


def _gaps_of(key, some):
    """Give the sum of the GAPs of some by this KEY."""
    return sum([gap for name, gap in key[0] if name in some])


def least_regret(block):
    """Give the least regret of an ORDER; None if none has a number."""
    return min([number for number in _regrets(block).values() if number is not None], default=None)


def calmest(block):
    """Give an ORDER with the least regret; None if none has a number."""
    regrets = _regrets(block)
    found = [(regrets[key], key) for key in regrets if regrets[key] is not None]
    return orders_of(block, min(found)[1])[0] if found else None


def is_calmest(block, thing):
    """Tell whether thing is an ORDER with the least regret."""
    if not is_order(block, thing):
        return False
    number = regret(block, thing)
    return number is not None and number == least_regret(block)


def safest_gap(block):
    """Give the greatest number that, by some ORDER, is above no GAP; None if there is no awaited one."""
    if not awaited_in(block):
        return None
    return max([_least_gap(key) for key in classes(block)])


def _least_gap(key):
    """Give the least GAP of this KEY."""
    return min([gap for _, gap in key[0]])


def safest(block):
    """Give an ORDER by which the greatest such number is above no GAP; None if there is no awaited one."""
    if not awaited_in(block):
        return None
    return orders_of(block, max(classes(block), key=_least_gap))[0]


def is_safest(block, thing):
    """Tell whether thing is an ORDER by which the greatest such number is above no GAP."""
    if not is_order(block, thing) or not awaited_in(block):
        return False
    return _least_gap(key_of(block, thing)) == safest_gap(block)
