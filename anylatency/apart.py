"""What can wait at once: the greatest GAPs, ORDERs by which pairs meet, and RINGs that forbid them."""

from anylatency.blocks import awaited_in, how_many_orders, is_order, least_order, names_in
from anylatency.blocks import needed_by, needs_of, readers_of
from anylatency.plain import check_names, has_ring, is_name, readers_by_name, reads_by_name, tupled
from anylatency.spans import pairs_that_meet, waits_by_order
from anylatency.waits import gap_of


def greatest_gap(block, name):
    """Give the greatest GAP that this instruction has by some ORDER; None if it is no awaited one."""
    needs, needing = needs_of(block, name), needed_by(block, name)
    if name not in awaited_in(block):
        return None
    return len(names_in(block)) - 1 - len(needs) - len(needing)


def order_with_gap(block, name, gap):
    """Give an ORDER by which this instruction has this GAP; None if there is none."""
    most = greatest_gap(block, name)
    if most is None or not 0 <= gap <= most:
        return None
    order = least_order(block)
    ahead, behind = needs_of(block, name), needed_by(block, name)
    # Those that neither need it nor are needed may stand anywhere between: as many of them as are asked for.
    loose = [one for one in order if one != name and one not in ahead and one not in behind]
    first = [one for one in order if one in ahead] + loose[:most - gap]
    return tuple(first + [name] + loose[most - gap:] + [one for one in order if one in behind])


def is_order_with_gap(block, name, gap, thing):
    """Tell whether thing is an ORDER by which this instruction has this GAP."""
    check_names(names_in(block), (name,))
    return is_order(block, thing) and gap_of(block, thing, name) == gap


def can_meet(block, one, other):
    """Tell whether these are unlike awaited ones that meet by some ORDER."""
    check_names(names_in(block), (one, other))
    return _pair(one, other) in meetable(block)


def can_part(block, one, other):
    """Tell whether these are unlike awaited ones that do not meet by some ORDER."""
    check_names(names_in(block), (one, other))
    pair = _pair(one, other)
    return pair in _awaited_pairs(block) and pair not in always_meeting(block)


def _pair(one, other):
    """Give the pair of both, the lesser one first."""
    return min(one, other), max(one, other)


def _awaited_pairs(block):
    """Give the ascending list of the pairs (one, other) of awaited ones, one below other."""
    names = awaited_in(block)
    return [(one, other) for at, one in enumerate(names) for other in names[at + 1:]]


def meetable(block):
    """Give the set of the pairs (one, other), one below other, of awaited ones that meet by some ORDER."""
    needs = {name: needs_of(block, name) for name in names_in(block)}
    pairs = _awaited_pairs(block)
    return tuple([(one, other) for one, other in pairs if one not in needs[other] and other not in needs[one]])


def always_meeting(block):
    """Give the set of the pairs (one, other), one below other, of awaited ones that meet by each ORDER."""
    return tuple([(one, other) for one, other in _awaited_pairs(block)
                  if _only_behind(block, one, other) and _only_behind(block, other, one)])


def _only_behind(block, one, other):
    """Tell whether each instruction that reads one needs other."""
    return all([other in needs_of(block, reader) for reader in readers_of(block, one)])


def can_all_meet(block, pairs):
    """Tell whether all of these pairs meet by some ORDER."""
    return not has_ring(_ahead_by_name(block, pairs))


def _ahead_by_name(block, pairs):
    """Give a dict that tells for each instruction the set of those that are to be ahead of it by these pairs."""
    reads = reads_by_name(tupled(block)[0])
    readers = readers_by_name(reads)
    ahead = {name: list(reads[name]) for name in reads}
    for one, other in pairs:
        for reader in readers[other]:
            ahead[reader].append(one)
        for reader in readers[one]:
            ahead[reader].append(other)
    return {name: tuple(sorted(set(ahead[name]))) for name in ahead}


def _bound(block, pairs):
    """Give the block in which each instruction reads all that are to be ahead of it; no BLOCK if there is a RING."""
    ahead = _ahead_by_name(block, pairs)
    rows, live = tupled(block)
    return tuple([(name, ahead[name], slow) for name, _, slow in rows]), live


def order_meeting(block, pairs):
    """Give an ORDER by which all of these pairs meet; None if there is none."""
    return least_order(_bound(block, pairs)) if can_all_meet(block, pairs) else None


def is_order_meeting(block, pairs, thing):
    """Tell whether thing is an ORDER by which all of these pairs meet."""
    return is_order(_bound(block, pairs), thing)


def how_many_meeting(block, pairs):
    """Tell by how many ORDERs all of these pairs meet."""
    return how_many_orders(_bound(block, pairs)) if can_all_meet(block, pairs) else 0


def ring_of(block, pairs):
    """Give a RING of these pairs; None if there is none."""
    ahead = _ahead_by_name(block, pairs)
    left = _held_back(ahead)
    if not left:
        return None
    # Each of those that are left has one of them ahead of it, so this walk comes round.
    walk = []
    at = left[0]
    while at not in walk:
        walk.append(at)
        at = [one for one in ahead[at] if one in left][0]
    return tuple(walk[walk.index(at):][::-1])


def _held_back(ahead):
    """Give the list of those that can not be laid, as they, or some ahead of them, stand in a RING."""
    left = list(ahead)
    for _ in ahead:
        left = [name for name in left if any([one in left for one in ahead[name]])]
    return left


def is_ring(block, pairs, thing):
    """Tell whether thing is a RING of these pairs."""
    ahead = _ahead_by_name(block, pairs)
    if not isinstance(thing, tuple) or not thing or not all([is_name(name) and name in ahead for name in thing]):
        return False
    if len(set(thing)) < len(thing):
        return False
    return all([one in ahead[other] for one, other in zip(thing, thing[1:] + thing[:1])])


def great_meetings(block):
    """Give the ascending list of the sets of pairs that all meet by some ORDER, and that lie in no other such set."""
    waits = waits_by_order(block)
    found = sorted(set([tuple(pairs_that_meet(waits[order])) for order in waits]))
    return [some for some in found if not any([some != more and _lies_in(some, more) for more in found])]


def _lies_in(some, more):
    """Tell whether all of some are among more."""
    return all([pair in more for pair in some])
