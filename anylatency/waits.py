"""What is waited for by an ORDER: WAITs and GAPs, those that meet, and sets that add up."""

from anylatency.blocks import names_in
from anylatency.plain import check_names, is_name_set, tupled
from anylatency.spans import add_up, adding_sets, first_readers, gap_in, meet, pairs_that_meet, waits_in


def first_reader(block, order, name):
    """Give the least place of an instruction that reads this one; how many there are if none does."""
    readers = first_readers(block, order)
    check_names(readers, (name,))
    return readers[name]


def wait_of(block, order, name):
    """Give the WAIT of this instruction; None if it is no awaited one."""
    return _waits_checked(block, order, (name,)).get(name)


def _waits_checked(block, order, names):
    """Give the WAITs by NAME; raise NoOrder, then NoName for the first of names that is no instruction."""
    waits = waits_in(block, order)
    check_names(names_in(block), names)
    return waits


def gap_of(block, order, name):
    """Give the GAP of this instruction; None if it is no awaited one."""
    wait = wait_of(block, order, name)
    return None if wait is None else gap_in(wait)


def gaps(block, order):
    """Give the pairs (NAME, GAP), one for each awaited one."""
    waits = waits_in(block, order)
    return tuple([(name, gap_in(waits[name])) for name in waits])


def meets(block, order, one, other):
    """Tell whether these two are awaited, and their WAITs meet."""
    waits = _waits_checked(block, order, (one, other))
    return one in waits and other in waits and meet(waits[one], waits[other])


def meeting(block, order):
    """Give the pairs (one, other), one below other, of awaited ones whose WAITs meet."""
    return tuple(pairs_that_meet(waits_in(block, order)))


def adds_up(block, order, some):
    """Tell whether this is a set of awaited ones of whose WAITs no two meet."""
    return add_up(_waits_checked(block, order, some), tupled(some))


def adding(block, order):
    """Give the ascending list of all sets that add up."""
    return adding_sets(waits_in(block, order))


def how_many_adding(block, order):
    """Tell how many sets add up."""
    return len(adding(block, order))


def most_adding(block, order):
    """Give a set that adds up with as many NAMEs as can be."""
    return max(adding(block, order), key=len)


def is_most_adding(block, order, thing):
    """Tell whether thing is a set that adds up with as many NAMEs as can be."""
    most = most_adding(block, order)
    return is_name_set(thing) and len(thing) == len(most) and add_up(waits_in(block, order), thing)


def at_once(block, order, place):
    """Give the set of those that are waited for at this place."""
    return _waited_for(waits_in(block, order), place)


def _waited_for(waits, place):
    """Give the set of those whose WAITs hold this place."""
    return tuple([name for name in waits if waits[name][0] <= place < waits[name][1]])


def most_at_once(block, order):
    """Tell how many are waited for at one place at the most."""
    waits = waits_in(block, order)
    # How many are waited for grows only at a place at which a WAIT begins.
    return max([len(_waited_for(waits, waits[name][0])) for name in waits], default=0)


def parted(block, order):
    """Give as few sets that add up as can hold each awaited one just once."""
    waits = waits_in(block, order)
    parts = []
    # As they begin: one that fits into no part meets, at the place where it begins, one of each part.
    for _, name in sorted([(waits[name][0], name) for name in waits]):
        fitting = [at for at, part in enumerate(parts) if add_up(waits, part + (name,))]
        if fitting:
            parts[fitting[0]] = parts[fitting[0]] + (name,)
        else:
            parts.append((name,))
    return tuple([tuple(sorted(part)) for part in parts])


def is_parted(block, order, thing):
    """Tell whether thing is a tuple of as few sets that add up as can hold each awaited one just once."""
    waits = waits_in(block, order)
    # No part can be (): the others would be fewer than can hold all.
    if not isinstance(thing, tuple) or len(thing) != most_at_once(block, order):
        return False
    if not all([is_name_set(part) and add_up(waits, part) for part in thing]):
        return False
    return sorted([name for part in thing for name in part]) == list(waits)
