"""What ENDs tell of a hidden ORDER: READINGs that fit, what is sure, and what to ask."""

from anylatency.best import key_of
from anylatency.blocks import awaited_in, names_in
from anylatency.issue import end_of, is_latencies, latencies_of
from anylatency.plain import all_orders, is_number, is_tuple_of, reads_by_name, told_order, tupled


def is_readings(block, thing):
    """Tell whether thing is a tuple of READINGs, of however many."""
    return isinstance(thing, tuple) and all([_is_reading(block, part) for part in thing])


def _is_reading(block, thing):
    """Tell whether thing is a pair of LATENCIES and a number."""
    return is_tuple_of(thing, 2) and is_latencies(block, thing[0]) and is_number(thing[1])


def fits_readings(block, order, readings):
    """Tell whether by this ORDER all ENDs of the READINGs come."""
    told_order(tupled(block), order)
    return all([end_of(block, order, latencies) == end for latencies, end in readings])


def orders_that_fit(block, readings):
    """Give the ascending list of the ORDERs that fit."""
    return _fitting(block, _every_order(block), readings)


def _every_order(block):
    """Give the ascending list of all ORDERs."""
    return all_orders(reads_by_name(tupled(block)[0]))


def _fitting(block, orders, readings):
    """Give the list of those of the orders that fit."""
    left = orders
    for latencies, end in readings:
        left = [order for order in left if end_of(block, order, latencies) == end]
    return left


def keys_that_fit(block, readings):
    """Give the ascending list of the KEYs of the ORDERs that fit."""
    return sorted(set([key_of(block, order) for order in orders_that_fit(block, readings)]))


def known_gaps(block, readings):
    """Give the triples (name, least, greatest) of the GAPs by all ORDERs that fit; None if none does."""
    keys = keys_that_fit(block, readings)
    if not keys:
        return None
    found = []
    for at, name in enumerate(awaited_in(block)):
        numbers = [key[0][at][1] for key in keys]
        found.append((name, min(numbers), max(numbers)))
    return tuple(found)


def sure_meets(block, readings):
    """Give the sets of the pairs that meet by all ORDERs that fit, and by none of them; None if no ORDER fits."""
    keys = keys_that_fit(block, readings)
    if not keys:
        return None
    names = awaited_in(block)
    pairs = [(one, other) for at, one in enumerate(names) for other in names[at + 1:]]
    sure = [pair for pair in pairs if all([pair in key[1] for key in keys])]
    barred = [pair for pair in pairs if not any([pair in key[1] for key in keys])]
    return tuple(sure), tuple(barred)


def next_ends(block, readings, latencies):
    """Give the ascending list of the ENDs that the ORDERs that fit have with these LATENCIES."""
    return _ends_of(block, orders_that_fit(block, readings), latencies)


def _ends_of(block, orders, latencies):
    """Give the ascending list of the ENDs that these orders have with these LATENCIES."""
    return sorted(set([end_of(block, order, latencies) for order in orders]))


def first_misfit(block, readings):
    """Give the number of the first READING that, with all ahead of it, no ORDER fits; None if some ORDER fits all."""
    left = _every_order(block)
    for number, reading in enumerate(readings):
        left = _fitting(block, left, (reading,))
        if not left:
            return number
    return None


def best_ask(block, readings, asks):
    """Give the place of the first of those LATENCIES for which next_ends is longest; None if there are none."""
    orders = orders_that_fit(block, readings)
    many = [len(_ends_of(block, orders, latencies)) for latencies in asks]
    return many.index(max(many)) if many else None


def gap_ask(block, name):
    """Give the LATENCIES in which this slow one takes n + 1, all others 1."""
    return latencies_of(block, ((name, len(names_in(block)) + 1),))


def pair_ask(block, one, other):
    """Give the LATENCIES in which these two slow ones take 2 * n + 1, all others 1."""
    lasts = 2 * len(names_in(block)) + 1
    return latencies_of(block, ((one, lasts), (other, lasts)))


def told_back(block, asker):
    """Give the least ORDER that has all ENDs that asker tells; None if there is none."""
    told = tupled(block)
    names = awaited_in(told)
    asks = [gap_ask(told, name) for name in names]
    asks.extend([pair_ask(told, one, other) for at, one in enumerate(names) for other in names[at + 1:]])
    readings = [(latencies, asker(latencies)) for latencies in asks]
    found = orders_that_fit(told, readings)
    return found[0] if found else None
