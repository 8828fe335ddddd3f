"""What the tests share: many small BLOCKs, made by counting, and the words of the document gone through by hand."""

from itertools import combinations, permutations, product

LETTERS = "abcdefgh"


def digit(number, base):
    return number // base, number % base


def block_by(many, number):
    """The BLOCK of so many instructions that this number tells; numbers count through all of them."""
    rows = list(permutations(LETTERS[:many]))
    number, at = digit(number, len(rows))
    line = rows[at]
    reads = {name: [] for name in line}
    for place, name in enumerate(line):
        for one in line[:place]:
            number, bit = digit(number, 2)
            if bit:
                reads[name].append(one)
    slow = {}
    live = []
    for name in sorted(line):
        number, bit = digit(number, 2)
        slow[name] = bit == 1
        number, bit = digit(number, 2)
        if bit:
            live.append(name)
    return tuple((name, tuple(sorted(reads[name])), slow[name]) for name in sorted(line)), tuple(live)


def how_many_blocks(many):
    total = len(list(permutations(range(many))))
    return total * 2 ** (many * (many - 1) // 2) * 4 ** many


def some_blocks():
    """All BLOCKs of up to two instructions, and many of three to five."""
    found = [block_by(many, number) for many in (0, 1, 2) for number in range(how_many_blocks(many))]
    for many, step in ((3, 13), (4, 2503), (5, 1000003)):
        found.extend(block_by(many, number) for number in range(0, how_many_blocks(many), step))
    return found


def chain(many, live=()):
    """Slow ones, each of which reads that ahead of it."""
    names = LETTERS[:many]
    return tuple((name, tuple(names[max(0, at - 1):at]), True) for at, name in enumerate(names)), tuple(live)


def loose(many, live=()):
    """Slow ones that read nothing."""
    return tuple((name, (), True) for name in LETTERS[:many]), tuple(live)


def all_orders(block):
    """All ORDERs, ascending, found among all permutations."""
    reads = {name: reads for name, reads, _ in block[0]}
    found = []
    for row in permutations(sorted(reads)):
        if all(row.index(one) < row.index(name) for name in row for one in reads[name]):
            found.append(row)
    return found


def some_latencies(block, turn):
    """LATENCIES with small numbers that change with turn."""
    slow = [name for name, _, is_slow in block[0] if is_slow]
    return tuple((name, 1 + (turn + at * at + turn * at) % 5) for at, name in enumerate(slow))


def slow_names(block):
    return tuple(name for name, _, is_slow in block[0] if is_slow)


def few_blocks(step=1):
    """Some unlike BLOCKs of up to four instructions, of which two or three are slow in the most."""
    found = [block_by(many, number) for many in (0, 1, 2) for number in range(how_many_blocks(many))]
    for many, leap in ((3, 211), (4, 6007)):
        blocks = [block_by(many, number) for number in range(0, how_many_blocks(many), leap)]
        found.extend(block for block in blocks if 2 <= len(slow_names(block)) <= 3)
    return sorted(set(found), key=lambda block: (len(block[0]), block))[::step]


WIDE = ((("a", (), True), ("b", (), True), ("u", ("a",), False), ("v", ("b",), False)), ("u", "v"))
# By some of its ORDERs no GAP is less than by others, but a and b, who meet there, do not meet here.
ROOMY = ((("a", (), True), ("b", (), True), ("u", ("a",), False), ("x", (), False), ("y", (), False)), ("b",))
# e is slow, but nobody waits for it.
MIXED = ((("a", (), True), ("b", (), True), ("c", ("a", "b"), False), ("d", ("c",), True), ("e", (), True)), ("d",))
THREE = ((("a", (), True), ("b", (), True), ("c", (), True), ("u", ("a",), False), ("v", ("b",), False),
          ("w", ("c",), False)), ())


def waits_by_hand(block, order):
    """The WAIT of each awaited one."""
    found = {}
    for name in slow_names(block):
        readers = [order.index(one) for one, reads, _ in block[0] if name in reads]
        if readers or name in block[1]:
            found[name] = (order.index(name), min(readers + [len(order)]))
    return found


def gaps_by_hand(block, order):
    """The GAP of each awaited one, told by counting what stands between."""
    return {name: len(order[place + 1:end]) for name, (place, end) in waits_by_hand(block, order).items()}


def meets_by_hand(waits, one, other):
    """Whether there is a place at which both are waited for."""
    return bool(set(range(*waits[one])) & set(range(*waits[other])))


def meeting_by_hand(block, order):
    """The pairs, one below other, of those that meet."""
    waits = waits_by_hand(block, order)
    return [pair for pair in combinations(sorted(waits), 2) if meets_by_hand(waits, *pair)]


def all_sets(names):
    """All sets of these names, the smallest first, and of those of one size the least first."""
    return [some for many in range(len(names) + 1) for some in combinations(sorted(names), many)]


def adding_by_hand(block, order):
    """All sets that add up."""
    apart = meeting_by_hand(block, order)
    every = all_sets(waits_by_hand(block, order))
    return sorted(some for some in every if not any(pair in apart for pair in combinations(some, 2)))


def all_latencies(block, top):
    """All LATENCIES with numbers from 1 to top."""
    slow = slow_names(block)
    return [tuple(zip(slow, numbers)) for numbers in product(range(1, top + 1), repeat=len(slow))]


def all_within(tops):
    """All LATENCIES within TOPS."""
    names = [name for name, _ in tops]
    return [tuple(zip(names, numbers)) for numbers in product(*[range(1, top + 2) for _, top in tops])]


def end_by_hand(block, order, latencies):
    """The END, told in one go; the Machine below tells the same, more slowly."""
    reads = {name: reads for name, reads, _ in block[0]}
    lasts = dict(latencies)
    comes = {}
    tick = 0
    for name in order:
        issue = max([tick] + [comes[one] for one in reads[name]])
        comes[name] = issue + lasts.get(name, 1)
        tick = issue + 1
    return max([tick] + [comes[name] for name in block[1]])


# Values that are no tuples of NAMEs or numbers, or are so only nearly: for whatever judges a thing.
STRANGE = (0, 1, -1, 10 ** 40, True, False, None, "", "a", "ab", [], [()], ["a"], ("",), ("A",), (1,), (True,), (None,),
           ((),), (("a",), ["b"]), (["a"],), ([],), ("a", "a"), ("b", "a"), ("a", 1), ("a", None), ("z",), ("a", "z"),
           (("a",), ("a",)), (("b", "a"),), (("a", "a"),), (("z",),), (("a", 1), ("b", 1), ("z", 1)), ((((((),),),),),))


class Machine:
    """Issues one instruction a tick, each as soon as all that it reads has come."""

    def __init__(self, block, order, latencies):
        self.reads = {name: reads for name, reads, _ in block[0]}
        self.live = block[1]
        self.order = order
        self.lasts = {name: 1 for name in order}
        self.lasts.update(dict(latencies))
        self.issues = {}
        self.comes = {}
        self.log = []
        while not self.over():
            self.tick()
        self.end = len(self.log)

    def has_come(self, name):
        return name in self.comes and self.comes[name] <= len(self.log)

    def over(self):
        return len(self.issues) == len(self.order) and all(self.has_come(name) for name in self.live)

    def tick(self):
        now = len(self.log)
        ahead = self.order[len(self.issues):]
        if ahead and all(self.has_come(one) for one in self.reads[ahead[0]]):
            self.issues[ahead[0]] = now
            self.comes[ahead[0]] = now + self.lasts[ahead[0]]
            self.log.append(ahead[0])
        else:
            self.log.append(None)

    def idle(self):
        last = max(self.issues.values(), default=-1)
        return [tick for tick in range(last) if self.log[tick] is None]

    def on_way(self, slow, tick):
        return tuple(name for name in slow if self.issues[name] <= tick and self.comes[name] > tick)


def listed(value):
    """The value with lists for tuples, all the way down."""
    if isinstance(value, (list, tuple)):
        return [listed(part) for part in value]
    return value


def has_list(value):
    """Whether a list stands in value at any depth."""
    return isinstance(value, list) or isinstance(value, tuple) and any(has_list(part) for part in value)


def turns(seed):
    """Numbers that look as if they came by chance, the same each time."""
    while True:
        seed = (seed * 6364136223846793005 + 1442695040888963407) % 2 ** 64
        yield seed >> 33
