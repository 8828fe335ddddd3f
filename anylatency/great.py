"""LONGs: great rows of which only the slow ones matter, exactly."""

from anylatency.errors import OtherNames
from anylatency.plain import ascends, is_name, is_number, is_tuple_of, tupled
from anylatency.spans import gap_in, gaps_in, pairs_that_meet, stalls_in


def is_long(thing):
    """Tell whether thing is a LONG."""
    if not is_tuple_of(thing, 2) or not is_number(thing[0]) or not isinstance(thing[1], tuple):
        return False
    many, waits = thing
    if many < 0 or not all([_is_wait(part, many) for part in waits]):
        return False
    places = [part[1] for part in waits]
    return ascends([part[0] for part in waits]) and len(set(places)) == len(places)


def _is_wait(thing, many):
    """Tell whether thing is a triple of a NAME, a place in a row of so many, and that of its first reader."""
    if not is_tuple_of(thing, 3) or not is_name(thing[0]) or not is_number(thing[1]) or not is_number(thing[2]):
        return False
    return 0 <= thing[1] < thing[2] <= many


def _waits_in(long):
    """Give a dict with the WAIT of each slow one, ascending."""
    return {name: (place, reader) for name, place, reader in tupled(long)[1]}


def long_gaps(long):
    """Give the pairs (NAME, GAP)."""
    waits = _waits_in(long)
    return tuple([(name, gap_in(waits[name])) for name in waits])


def long_meeting(long):
    """Give the pairs (one, other), one below other, of slow ones whose WAITs meet."""
    return tuple(pairs_that_meet(_waits_in(long)))


def long_most(long):
    """Tell how many slow ones wait at once at the most."""
    waits = _waits_in(long)
    # How many wait grows only at a place at which a WAIT begins.
    begun = [waits[name][0] for name in waits]
    return max([len([name for name in waits if waits[name][0] <= at < waits[name][1]]) for at in begun], default=0)


def long_end(long, latencies):
    """Give the END."""
    return long[0] + _greatest_sum(_waits_in(long), stalls_in(latencies))


def _greatest_sum(waits, stalls):
    """Give the greatest sum of STALLs less GAPs, over sets of slow ones of whose WAITs no two meet."""
    # As they end: ahead of each one's place all those have ended that it can be put behind.
    sums = [(0, 0)]
    for end, place, name in sorted([(waits[name][1], waits[name][0], name) for name in waits]):
        ahead = max([more for at, more in sums if at <= place])
        here = ahead + stalls[name] - gap_in(waits[name])
        sums.append((end, max(here, sums[-1][1])))
    return sums[-1][1]


def long_never_later(one, other):
    """Tell whether one never ends later than other FOR ALL LATENCIES."""
    return long_later_by(one, other) == 0


def long_later_by(one, other):
    """Give by how much one ends later than other at the most; None if without end."""
    ours, theirs = _waits_in(one), _waits_in(other)
    if one[0] != other[0] or list(ours) != list(theirs):
        raise OtherNames()
    here = pairs_that_meet(ours)
    if not all([pair in here for pair in pairs_that_meet(theirs)]):
        return None
    # As in a BLOCK: one ends latest beside other if each slow one has its GAP in other as its STALL.
    return _greatest_sum(ours, gaps_in(theirs))
