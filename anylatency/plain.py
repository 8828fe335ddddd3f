"""What the other files share: tuples for lists, NAMEs, and the rows of a BLOCK by NAME."""

from anylatency.errors import NoName, NoOrder


def tupled(value):
    """Give value with tuples for lists, all the way down."""
    if isinstance(value, (list, tuple)):
        return tuple([tupled(part) for part in value])
    return value


def is_number(thing):
    """Tell whether thing is an int that is not a bool."""
    return isinstance(thing, int) and not isinstance(thing, bool)


def is_name(thing):
    """Tell whether thing is a NAME: 1 to 8 letters a to z."""
    if not isinstance(thing, str):
        return False
    return 1 <= len(thing) <= 8 and thing.isascii() and thing.isalpha() and thing.islower()


def is_tuple_of(thing, many):
    """Tell whether thing is a tuple of so many values."""
    return isinstance(thing, tuple) and len(thing) == many


def ascends(values):
    """Tell whether each of the values is greater than that ahead of it."""
    return all([low < high for low, high in zip(values, values[1:])])


def is_name_set(thing):
    """Tell whether thing is a set of NAMEs: an ascending tuple without duplicates."""
    return isinstance(thing, tuple) and all([is_name(part) for part in thing]) and ascends(thing)


def reads_by_name(rows):
    """Give a dict that tells for each NAME of the rows what it reads."""
    return {row[0]: row[1] for row in rows}


def readers_by_name(reads):
    """Give a dict that tells for each NAME the list of those that read it."""
    readers = {name: [] for name in reads}
    for name in reads:
        for one in reads[name]:
            readers[one].append(name)
    return readers


def reached(steps, name):
    """Give the set of the NAMEs to which one or more steps lead from name."""
    found = {}
    ahead = list(steps[name])
    while ahead:
        at = ahead.pop()
        if at not in found:
            found[at] = True
            ahead.extend(steps[at])
    return tuple(sorted(found))


def has_ring(reads):
    """Tell whether some NAME would need itself."""
    # Counted off instead of searched from each NAME: a BLOCK to be judged may be of any size.
    readers = readers_by_name(reads)
    missing = {name: len(reads[name]) for name in reads}
    free = [name for name in reads if missing[name] == 0]
    laid = 0
    while free:
        name = free.pop()
        laid = laid + 1
        for reader in readers[name]:
            missing[reader] = missing[reader] - 1
            if missing[reader] == 0:
                free.append(reader)
    return laid < len(reads)


def next_names(reads, laid):
    """Give the ascending list of the NAMEs that can stand right behind those that are laid."""
    return sorted([name for name in reads if name not in laid and all([one in laid for one in reads[name]])])


def is_order_of(reads, thing):
    """Tell whether thing is a tuple of all NAMEs of reads, each once, each behind all that it reads."""
    if not is_tuple_of(thing, len(reads)):
        return False
    laid = {}
    for name in thing:
        # A list or another strange value could not even be looked up.
        if not is_name(name) or name not in reads or name in laid:
            return False
        if not all([one in laid for one in reads[name]]):
            return False
        laid[name] = True
    return True


def all_orders(reads):
    """Give the ascending list of all tuples of the NAMEs of reads, each once, each behind all that it reads."""
    orders = [()]
    for _ in reads:
        orders = [begun + (name,) for begun in orders for name in next_names(reads, begun)]
    return orders


def told_order(block, order):
    """Give the order as a tuple; raise NoOrder() if it is no ORDER of the block."""
    told = tupled(order)
    if not is_order_of(reads_by_name(block[0]), told):
        raise NoOrder()
    return told


def check_names(known, names):
    """Raise NoName for the first of names that is not known."""
    for name in names:
        if name not in known:
            raise NoName(name)
