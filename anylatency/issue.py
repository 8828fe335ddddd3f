"""BLOCKs issued by an ORDER and LATENCIES that are told."""

from anylatency.blocks import awaited_in, least_order, slow_in
from anylatency.plain import check_names, is_number, is_tuple_of, next_names, reads_by_name, told_order, tupled


def is_latencies(block, thing):
    """Tell whether thing is LATENCIES for the block."""
    if not isinstance(thing, tuple) or not all([_is_latency(pair) for pair in thing]):
        return False
    return tuple([pair[0] for pair in thing]) == slow_in(block)


def _is_latency(thing):
    """Tell whether thing is a pair of something and a number from 1."""
    return is_tuple_of(thing, 2) and is_number(thing[1]) and thing[1] >= 1


def latencies_of(block, pairs):
    """Give the LATENCIES with the numbers of the pairs, and 1 for all other slow ones."""
    told = dict(tupled(pairs))
    slow = slow_in(block)
    check_names(slow, list(told))
    return tuple([(name, told.get(name, 1)) for name in slow])


def _issued(block, order, latencies):
    """Give two dicts, for each instruction, as the ORDER goes: when it issues, when its result comes."""
    rows = tupled(block)[0]
    told = told_order(tupled(block), order)
    return _issued_at_first(reads_by_name(rows), dict(tupled(latencies)), told)


def _issued_at_first(reads, lasts, begun):
    """Give these two dicts for the instructions that an ORDER begins with."""
    issues = {}
    comes = {}
    tick = 0
    for name in begun:
        issues[name] = max([tick] + [comes[one] for one in reads[name]])
        comes[name] = issues[name] + lasts.get(name, 1)
        tick = issues[name] + 1
    return issues, comes


def issue_ticks(block, order, latencies):
    """Give the ticks at which the instructions issue, as they stand in the ORDER."""
    issues, _ = _issued(block, order, latencies)
    return tuple(issues.values())


def come_ticks(block, order, latencies):
    """Give the ticks at which the results come, as they stand in the ORDER."""
    _, comes = _issued(block, order, latencies)
    return tuple(comes.values())


def end_of(block, order, latencies):
    """Give the END."""
    issues, comes = _issued(block, order, latencies)
    return max([issues[name] + 1 for name in issues] + [comes[name] for name in tupled(block)[1]], default=0)


def idle_stretches(block, order, latencies):
    """Give the pairs (first, many), one for each stretch of idle ticks that is as long as can be."""
    issues = issue_ticks(block, order, latencies)
    return tuple([(one + 1, other - one - 1) for one, other in zip(issues, issues[1:]) if other - one > 1])


def how_many_idle(block, order, latencies):
    """Tell how many ticks are idle."""
    return sum([many for _, many in idle_stretches(block, order, latencies)])


def held_up(block, order, latencies):
    """Give for each place the set of those whose results the instruction there waits for to the last."""
    reads = reads_by_name(tupled(block)[0])
    issues, comes = _issued(block, order, latencies)
    held = []
    tick = 0
    for name in issues:
        late = issues[name] > tick
        held.append(tuple([one for one in reads[name] if late and comes[one] == issues[name]]))
        tick = issues[name] + 1
    return tuple(held)


def issued_at(block, order, latencies, tick):
    """Give what issues at this tick; None if nothing does."""
    issues, _ = _issued(block, order, latencies)
    for name in issues:
        if issues[name] == tick:
            return name
    return None


def on_way(block, order, latencies, tick):
    """Give the set of the slow ones that are on their way at this tick."""
    issues, comes = _issued(block, order, latencies)
    return tuple([name for name in slow_in(block) if issues[name] <= tick < comes[name]])


def most_on_way(block, order, latencies):
    """Tell how many slow ones are on their way at one tick at the most."""
    issues, comes = _issued(block, order, latencies)
    slow = slow_in(block)
    # How many are on their way grows only at a tick at which one issues.
    starts = [issues[name] for name in slow]
    return max([len([name for name in slow if issues[name] <= tick < comes[name]]) for tick in starts], default=0)


def slack_of(block, order, latencies, name):
    """Give the greatest number by which the latency of name can grow while the END is the same."""
    end = end_of(block, order, latencies)
    check_names(slow_in(block), (name,))
    if name not in awaited_in(block):
        return None
    # Grown by more than the END, this latency alone decides: from there on each tick more is one tick more of END.
    push = end + 1
    grown = [(one, many + push if one == name else many) for one, many in tupled(latencies)]
    return end + push - end_of(block, order, grown)


def quickest_order(block, latencies):
    """Give the pair of the least of the ORDERs that have the least END, and this END."""
    block = tupled(block)
    reads = reads_by_name(block[0])
    lasts = dict(tupled(latencies))
    tails = _tails(block, lasts)
    order = least_order(block)
    best = (order, end_of(block, order, latencies))
    ahead = [()]
    while ahead:
        begun = ahead.pop()
        end = _soonest_end(block, lasts, tails, begun)
        if end >= best[1]:
            continue
        if len(begun) == len(reads):
            best = (begun, end)
        # Popped from the end: turned round, the lesser ones come first, so that of equally quick ones the least stays.
        ahead.extend([begun + (name,) for name in next_names(reads, begun)][::-1])
    return best


def _tails(block, lasts):
    """Give for each instruction how many ticks its issue lies ahead of the END at the least."""
    rows, live = block
    tails = {}
    for name in least_order(block)[::-1]:
        last = lasts.get(name, 1)
        wanted = last if name in live else 1
        tails[name] = max([wanted] + [last + tails[row[0]] for row in rows if name in row[1]])
    return tails


def _soonest_end(block, lasts, tails, begun):
    """Give a tick ahead of which no ORDER that begins so ends; the END itself if nothing is left."""
    rows, live = block
    reads = reads_by_name(rows)
    issues, comes = _issued_at_first(reads, lasts, begun)
    tick = max([issues[name] + 1 for name in issues], default=0)
    left = [name for name in reads if name not in issues]
    # One issues each tick: nothing is better than those with the longest tails first.
    ends = [tick + at + tail for at, tail in enumerate(sorted([tails[name] for name in left], reverse=True))]
    waits = [comes[one] + tails[name] for name in left for one in reads[name] if one in comes]
    return max([tick] + ends + waits + [comes[name] for name in live if name in comes])
