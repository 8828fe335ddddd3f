"""What the tests share: many small BLOCKs, made by counting, and a machine that goes tick by tick."""

from itertools import permutations

LETTERS = "abcdefgh"


def digit(number, base):
    return number // base, number % base


def block_by(many, number):
    """The BLOCK of so many instructions that this number tells; numbers count through all of them."""
    rows = list(permutations(LETTERS[:many]))
    number, at = digit(number, len(rows))
    line = rows[at]
    reads = {name: [] for name in line}
    for place, name in enumerate(line):
        for one in line[:place]:
            number, bit = digit(number, 2)
            if bit:
                reads[name].append(one)
    slow = {}
    live = []
    for name in sorted(line):
        number, bit = digit(number, 2)
        slow[name] = bit == 1
        number, bit = digit(number, 2)
        if bit:
            live.append(name)
    return tuple((name, tuple(sorted(reads[name])), slow[name]) for name in sorted(line)), tuple(live)


def how_many_blocks(many):
    total = len(list(permutations(range(many))))
    return total * 2 ** (many * (many - 1) // 2) * 4 ** many


def some_blocks():
    """All BLOCKs of up to two instructions, and many of three to five."""
    found = [block_by(many, number) for many in (0, 1, 2) for number in range(how_many_blocks(many))]
    for many, step in ((3, 13), (4, 2503), (5, 1000003)):
        found.extend(block_by(many, number) for number in range(0, how_many_blocks(many), step))
    return found


def chain(many, live=()):
    """Slow ones, each of which reads that ahead of it."""
    names = LETTERS[:many]
    return tuple((name, tuple(names[max(0, at - 1):at]), True) for at, name in enumerate(names)), tuple(live)


def loose(many, live=()):
    """Slow ones that read nothing."""
    return tuple((name, (), True) for name in LETTERS[:many]), tuple(live)


def all_orders(block):
    """All ORDERs, ascending, found among all permutations."""
    reads = {name: reads for name, reads, _ in block[0]}
    found = []
    for row in permutations(sorted(reads)):
        if all(row.index(one) < row.index(name) for name in row for one in reads[name]):
            found.append(row)
    return found


def some_latencies(block, turn):
    """LATENCIES with small numbers that change with turn."""
    slow = [name for name, _, is_slow in block[0] if is_slow]
    return tuple((name, 1 + (turn + at * at + turn * at) % 5) for at, name in enumerate(slow))


def slow_names(block):
    return tuple(name for name, _, is_slow in block[0] if is_slow)


class Machine:
    """Issues one instruction a tick, each as soon as all that it reads has come."""

    def __init__(self, block, order, latencies):
        self.reads = {name: reads for name, reads, _ in block[0]}
        self.live = block[1]
        self.order = order
        self.lasts = {name: 1 for name in order}
        self.lasts.update(dict(latencies))
        self.issues = {}
        self.comes = {}
        self.log = []
        while not self.over():
            self.tick()
        self.end = len(self.log)

    def has_come(self, name):
        return name in self.comes and self.comes[name] <= len(self.log)

    def over(self):
        return len(self.issues) == len(self.order) and all(self.has_come(name) for name in self.live)

    def tick(self):
        now = len(self.log)
        ahead = self.order[len(self.issues):]
        if ahead and all(self.has_come(one) for one in self.reads[ahead[0]]):
            self.issues[ahead[0]] = now
            self.comes[ahead[0]] = now + self.lasts[ahead[0]]
            self.log.append(ahead[0])
        else:
            self.log.append(None)

    def idle(self):
        last = max(self.issues.values(), default=-1)
        return [tick for tick in range(last) if self.log[tick] is None]

    def on_way(self, slow, tick):
        return tuple(name for name in slow if self.issues[name] <= tick and self.comes[name] > tick)


def listed(value):
    """The value with lists for tuples, all the way down."""
    if isinstance(value, (list, tuple)):
        return [listed(part) for part in value]
    return value


def has_list(value):
    """Whether a list stands in value at any depth."""
    return isinstance(value, list) or isinstance(value, tuple) and any(has_list(part) for part in value)
