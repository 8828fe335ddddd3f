"""What the file about LOOPs needs: rounds put behind one another, and what each does to the ticks."""

from anylatency.blocks import names_in
from anylatency.plain import reads_by_name

LETTERS = "abcdefghijklmnopqrstuvwxyz"


def word_in_round(names, at, name):
    """Give the NAME that this one of names has in round at of a BLOCK of rounds; they ascend as (at, name) do."""
    return LETTERS[at] + LETTERS[names.index(name)]


def told_by_word(names, word):
    """Give the pair (at, name) that has this NAME in a BLOCK of rounds."""
    return LETTERS.index(word[0]), names[LETTERS.index(word[1])]


def block_of_rounds(loop, rounds):
    """Give the BLOCK of so many rounds of the loop, a few, one behind another."""
    block, carried = loop
    names = names_in(block)
    rows = []
    for at in range(rounds):
        for name, reads, slow in block[0]:
            told = [word_in_round(names, at, one) for one in reads]
            elder = [word_in_round(names, at - 1, one) for one, reader in carried if reader == name and at > 0]
            rows.append((word_in_round(names, at, name), tuple(sorted(told + elder)), slow))
    return tuple(rows), tuple([word_in_round(names, rounds - 1, name) for name in block[1]])


def order_of_rounds(loop, order, rounds):
    """Give the ORDER of the BLOCK of so many rounds by which each round goes by this order."""
    names = names_in(loop[0])
    return tuple([word_in_round(names, at, name) for at in range(rounds) for name in order])


# What is behind a round is the greatest of some sums of what was ahead of it and of numbers. Both are told by rows of
# numbers: the tick that is behind all issues, then the ticks at which the results come, as the NAMEs ascend. None
# stands where what was ahead does not matter at all.


def round_table(loop, order, lasts):
    """Give the table of a round, if the slow ones take what lasts tells: a row for each of what is behind it."""
    block, carried = loop
    names = names_in(block)
    reads = reads_by_name(block[0])
    ahead = table_of_nothing(1 + len(names))
    tick = ahead[0]
    comes = {}
    for name in order:
        elder = [ahead[1 + names.index(one)] for one, reader in carried if reader == name]
        issue = _greatest([tick] + elder + [comes[one] for one in reads[name]])
        comes[name] = _more(issue, lasts.get(name, 1))
        tick = _more(issue, 1)
    return [tick] + [comes[name] for name in names]


def table_of_nothing(many):
    """Give the table, of so many rows, by which all is as it was."""
    return [[0 if at == place else None for at in range(many)] for place in range(many)]


def _greatest(rows):
    """Give the row of the greatest numbers of these rows."""
    columns = [[number for number in column if number is not None] for column in zip(*rows)]
    return [max(column, default=None) for column in columns]


def _more(row, number):
    """Give the row with this number added to all that stands in it."""
    return [None if one is None else one + number for one in row]


def table_behind(late, early):
    """Give the table of what early tells and late behind it."""
    return [_greatest([_more(early[at], number) for at, number in enumerate(row) if number is not None])
            for row in late]


def table_again(table, many):
    """Give the table of so many rounds, each with this table."""
    told = table_of_nothing(len(table))
    twice = table
    left = many
    while left:
        if left & 1:
            told = table_behind(told, twice)
        twice = table_behind(twice, twice)
        left = left >> 1
    return told


def ticks_by(table):
    """Give the numbers that come by this table if all begins at 0."""
    return [max([number for number in row if number is not None]) for row in table]
