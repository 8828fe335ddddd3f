"""BLOCKs: their instructions, their ORDERs, and BLOCKs that are made of them."""

from anylatency.errors import Needs, NoNumber, Twice
from anylatency.plain import ascends, check_names, has_ring, is_name, is_name_set, is_order_of, is_tuple_of
from anylatency.plain import next_names, reached, readers_by_name, reads_by_name, told_order, tupled


def is_block(thing):
    """Tell whether thing is a BLOCK, of however many instructions."""
    if not is_tuple_of(thing, 2):
        return False
    rows, live = thing
    if not isinstance(rows, tuple) or not all([_is_row(row) for row in rows]) or not is_name_set(live):
        return False
    if not ascends([row[0] for row in rows]):
        return False
    reads = reads_by_name(rows)
    if not all([name in reads for name in live]):
        return False
    if not all([one in reads for row in rows for one in row[1]]):
        return False
    return not has_ring(reads)


def _is_row(thing):
    """Tell whether thing is a triple of a NAME, a set of NAMEs, and True or False."""
    if not is_tuple_of(thing, 3):
        return False
    return is_name(thing[0]) and is_name_set(thing[1]) and isinstance(thing[2], bool)


def names_in(block):
    """Give the set of the instructions."""
    return tuple([row[0] for row in tupled(block)[0]])


def reads_of(block, name):
    """Give the set of those that this instruction reads."""
    reads = reads_by_name(tupled(block)[0])
    check_names(reads, (name,))
    return reads[name]


def readers_of(block, name):
    """Give the set of those that read this instruction."""
    reads = reads_by_name(tupled(block)[0])
    check_names(reads, (name,))
    return tuple(sorted(readers_by_name(reads)[name]))


def needs_of(block, name):
    """Give the set of those that this instruction needs."""
    reads = reads_by_name(tupled(block)[0])
    check_names(reads, (name,))
    return reached(reads, name)


def needed_by(block, name):
    """Give the set of those that need this instruction."""
    reads = reads_by_name(tupled(block)[0])
    check_names(reads, (name,))
    return reached(readers_by_name(reads), name)


def slow_in(block):
    """Give the set of the slow ones."""
    return tuple([row[0] for row in tupled(block)[0] if row[2]])


def awaited_in(block):
    """Give the set of the slow ones that are read or live."""
    rows, live = tupled(block)
    readers = readers_by_name(reads_by_name(rows))
    return tuple([row[0] for row in rows if row[2] and (readers[row[0]] or row[0] in live)])


def is_order(block, thing):
    """Tell whether thing is an ORDER of the block."""
    return is_order_of(reads_by_name(tupled(block)[0]), thing)


def least_order(block):
    """Give the least ORDER."""
    reads = reads_by_name(tupled(block)[0])
    laid = {}
    for _ in reads:
        laid[next_names(reads, laid)[0]] = True
    return tuple(laid)


def how_many_orders(block):
    """Tell how many ORDERs there are."""
    return _ways_on(_reads_as_bits(tupled(block)[0]))[0]


def order_at(block, number):
    """Give the ORDER with this number; raise NoNumber if there is none."""
    rows = tupled(block)[0]
    needed = _reads_as_bits(rows)
    ways = _ways_on(needed)
    if not 0 <= number < ways[0]:
        raise NoNumber(number)
    order = []
    laid = 0
    left = number
    for _ in rows:
        longer = [(at, laid | 1 << at) for at in _next_ones(needed, laid)]
        choice = 0
        while left >= ways[longer[choice][1]]:
            left = left - ways[longer[choice][1]]
            choice = choice + 1
        at, laid = longer[choice]
        order.append(rows[at][0])
    return tuple(order)


def number_of_order(block, order):
    """Give the number of this ORDER; raise NoOrder if it is none."""
    block = tupled(block)
    told = told_order(block, order)
    needed = _reads_as_bits(block[0])
    ways = _ways_on(needed)
    places = {row[0]: at for at, row in enumerate(block[0])}
    number = 0
    laid = 0
    for name in told:
        place = places[name]
        number = number + sum([ways[laid | 1 << at] for at in _next_ones(needed, laid) if at < place])
        laid = laid | 1 << place
    return number


def _reads_as_bits(rows):
    """Give a list with, for each row, a number in which the bits of the rows that it reads are 1."""
    bits = {row[0]: 1 << at for at, row in enumerate(rows)}
    return [sum([bits[one] for one in row[1]]) for row in rows]


def _next_ones(needed, laid):
    """Give the ascending list of the rows that can stand right behind those whose bits are in laid."""
    return [at for at, needs in enumerate(needed) if not laid >> at & 1 and needs & laid == needs]


def _ways_on(needed):
    """Give a dict that tells, for all that can be laid at first, in how many ways the rest can be laid."""
    # Sets that no ORDER begins with are left out, so that chains cost next to nothing.
    levels = [[0]]
    for _ in needed:
        longer = {}
        for laid in levels[-1]:
            for at in _next_ones(needed, laid):
                longer[laid | 1 << at] = True
        levels.append(list(longer))
    ways = {levels[-1][0]: 1}
    for level in reversed(list(levels[:-1])):
        for laid in level:
            ways[laid] = sum([ways[laid | 1 << at] for at in _next_ones(needed, laid)])
    return ways


def with_row(block, row):
    """Give the BLOCK with this row, in the place of that with its NAME if there is one."""
    rows, live = tupled(block)
    row = tupled(row)
    reads = reads_by_name(rows)
    reads[row[0]] = row[1]
    check_names(reads, row[1])
    if has_ring(reads):
        raise Needs()
    return tuple(sorted([one for one in rows if one[0] != row[0]] + [row])), live


def without(block, name):
    """Give the BLOCK without this instruction, which nobody reads then."""
    rows, live = tupled(block)
    check_names(names_in(block), (name,))
    left = [(one, _less(reads, name), slow) for one, reads, slow in rows if one != name]
    return tuple(left), _less(live, name)


def _less(names, name):
    """Give the names but this one."""
    return tuple([one for one in names if one != name])


def made_slow(block, some):
    """Give the BLOCK in which these are slow."""
    return _with_speed(block, some, True)


def made_quick(block, some):
    """Give the BLOCK in which these are quick."""
    return _with_speed(block, some, False)


def _with_speed(block, some, speed):
    """Give the BLOCK in which these are slow (speed is True) or quick (False)."""
    rows, live = tupled(block)
    check_names(names_in(block), some)
    return tuple([(name, reads, speed if name in some else slow) for name, reads, slow in rows]), live


def with_live(block, some):
    """Give the BLOCK with just these results live."""
    check_names(names_in(block), some)
    return tupled(block)[0], tupled(some)


def renamed(block, pairs):
    """Give the BLOCK in which the instructions of the pairs have their new NAMEs, all at once."""
    rows, live = tupled(block)
    told = dict(tupled(pairs))
    check_names(names_in(block), list(told))
    new = {row[0]: told.get(row[0], row[0]) for row in rows}
    _check_unlike(sorted(new.values()))
    changed = [(new[name], _renamed_set(reads, new), slow) for name, reads, slow in rows]
    return tuple(sorted(changed)), _renamed_set(live, new)


def _check_unlike(names):
    """Raise Twice for the least NAME that stands twice in the names, which are sorted."""
    for one, other in zip(names, names[1:]):
        if one == other:
            raise Twice(one)


def _renamed_set(names, new):
    """Give the set of the new NAMEs of these."""
    return tuple(sorted([new[name] for name in names]))
