"""What makes the END: sums of sets that add up, makers, and what latencies are worth."""

from anylatency.blocks import names_in
from anylatency.issue import end_of, latencies_of
from anylatency.plain import check_names, is_name_set, tupled
from anylatency.spans import add_up, adding_sets, end_by, gap_in, stalls_in, waits_in


def end_from(block, order, latencies, some):
    """Give the sum of this set; None if it does not add up."""
    waits = waits_in(block, order)
    check_names(names_in(block), some)
    told = tupled(some)
    if not add_up(waits, told):
        return None
    return len(order) + _stalled(waits, stalls_in(latencies), told)


def _stalled(waits, stalls, some):
    """Give the sum of the STALLs of some, less their GAPs."""
    return sum([stalls[name] - gap_in(waits[name]) for name in some])


def makers(block, order, latencies):
    """Give the ascending list of the sets that add up, and whose sum is the END."""
    waits = waits_in(block, order)
    stalls = stalls_in(latencies)
    told = adding_sets(waits)
    most = end_by(len(order), waits, stalls) - len(order)
    return [some for some in told if _stalled(waits, stalls, some) == most]


def maker(block, order, latencies):
    """Give a set that adds up, and whose sum is the END."""
    return makers(block, order, latencies)[0]


def is_maker(block, order, latencies, thing):
    """Tell whether thing is a set that adds up, and whose sum is the END."""
    end = end_of(block, order, latencies)
    if not is_name_set(thing) or not add_up(waits_in(block, order), thing):
        return False
    return end_from(block, order, latencies, thing) == end


def which_matter(block, order, latencies):
    """Give the set of the slow ones that stand in some maker."""
    told = makers(block, order, latencies)
    return tuple([name for name in names_in(block) if any([name in some for some in told])])


def which_hold(block, order, latencies):
    """Give the set of the slow ones that stand in each maker."""
    told = makers(block, order, latencies)
    return tuple([name for name in names_in(block) if all([name in some for some in told])])


def end_range(block, order, low, high):
    """Give the pair of the least and the greatest END by LATENCIES between low and high."""
    return end_of(block, order, low), end_of(block, order, high)


def worth(block, order, latencies, name):
    """Tell how much sooner the END is if the latency of name is 1."""
    end = end_of(block, order, latencies)
    check_names(names_in(block), (name,))
    return end - end_of(block, order, [(one, 1 if one == name else number) for one, number in tupled(latencies)])


def fewest_quick(block, order, latencies, end):
    """Give the least of the smallest sets of slow ones that must take 1 for the END to be at most end, or None."""
    waits = waits_in(block, order)
    stalls = stalls_in(latencies)
    found = []
    for some in _all_sets([name for name in waits if stalls[name] > 0]):
        left = {name: 0 if name in some else stalls[name] for name in waits}
        if end_by(len(order), waits, left) <= end:
            found.append((len(some), some))
    return min(found)[1] if found else None


def _all_sets(names):
    """Give a list of all sets of these NAMEs, which ascend."""
    found = [()]
    for name in names:
        found = found + [some + (name,) for some in found]
    return found


def latencies_reaching(block, order, end):
    """Give LATENCIES by which the END is just end; None if there are none."""
    waits = waits_in(block, order)
    more = end - len(order)
    if more == 0:
        return latencies_of(block, ())
    if more < 0 or not waits:
        return None
    name = list(waits)[0]
    return latencies_of(block, ((name, 1 + gap_in(waits[name]) + more),))
