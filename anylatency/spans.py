"""What the files about waiting share: the WAITs of an ORDER by NAME, and the END that they make."""

from anylatency.blocks import awaited_in
from anylatency.plain import all_orders, readers_by_name, reads_by_name, told_order, tupled


def first_readers(block, order):
    """Give a dict with the first reader of each instruction; raise NoOrder if order is none of the block."""
    block = tupled(block)
    told = told_order(block, order)
    return _firsts_by(told, readers_by_name(reads_by_name(block[0])))


def _firsts_by(order, readers):
    """Give a dict with the first reader of each instruction by this ORDER."""
    places = {name: place for place, name in enumerate(order)}
    return {name: min([places[one] for one in readers[name]], default=len(order)) for name in readers}


def waits_in(block, order):
    """Give a dict with the WAIT of each awaited one, ascending; raise NoOrder if order is none of the block."""
    return _waits_by(order, first_readers(block, order), awaited_in(block))


def _waits_by(order, firsts, awaited):
    """Give a dict with the WAIT of each awaited one by this ORDER and these first readers."""
    places = {name: place for place, name in enumerate(order)}
    return {name: (places[name], firsts[name]) for name in awaited}


def waits_by_order(block):
    """Give a dict with the WAITs of each ORDER of the block, the ORDERs ascending."""
    block = tupled(block)
    reads = reads_by_name(block[0])
    # Told once for all ORDERs: there are hundreds of them.
    readers, awaited = readers_by_name(reads), awaited_in(block)
    return {order: _waits_by(order, _firsts_by(order, readers), awaited) for order in all_orders(reads)}


def gap_in(wait):
    """Tell how many places lie between the two of this WAIT."""
    return wait[1] - wait[0] - 1


def gaps_in(waits):
    """Give a dict with the GAP of each WAIT."""
    return {name: gap_in(waits[name]) for name in waits}


def meet(one, other):
    """Tell whether two WAITs meet."""
    return one[0] < other[1] and other[0] < one[1]


def pairs_that_meet(waits):
    """Give the ascending list of the pairs (one, other) of NAMEs, one below other, whose WAITs meet."""
    names = list(waits)
    pairs = [(one, other) for at, one in enumerate(names) for other in names[at + 1:]]
    return [(one, other) for one, other in pairs if meet(waits[one], waits[other])]


def add_up(waits, some):
    """Tell whether these NAMEs, each once, all have WAITs, of which no two meet."""
    if not all([name in waits for name in some]):
        return False
    return not any([meet(waits[one], waits[other]) for at, one in enumerate(some) for other in some[at + 1:]])


def adding_sets(waits):
    """Give the ascending list of all sets of NAMEs that add up."""
    found = [()]
    for name in waits:
        found = found + [some + (name,) for some in found if not _meets_one_of(waits, name, some)]
    return sorted(found)


def _meets_one_of(waits, name, some):
    """Tell whether the WAIT of name meets that of one of some."""
    return any([meet(waits[name], waits[one]) for one in some])


def stalls_in(latencies):
    """Give a dict with the STALL of each slow one."""
    return {name: number - 1 for name, number in tupled(latencies)}


def end_by(many, waits, stalls):
    """Give the END of so many instructions with these WAITs and STALLs."""
    # No reader but the first one can be held up by a result: those behind it come later anyway.
    ticks = [0]
    for place in range(1, many + 1):
        comes = [ticks[waits[name][0]] + stalls[name] + 1 for name in waits if waits[name][1] == place]
        ticks.append(max([ticks[-1] + 1] + comes))
    return ticks[-1]
