"""Two ORDERs of a BLOCK compared FOR ALL LATENCIES, and for those within known tops."""

from anylatency.blocks import slow_in
from anylatency.issue import end_of, is_latencies, latencies_of
from anylatency.plain import told_order, tupled
from anylatency.spans import adding_sets, end_by, gaps_in, pairs_that_meet, waits_in


def never_later(block, one, other):
    """Tell whether END by one is at most END by other FOR ALL LATENCIES."""
    lost = meet_changes(block, one, other)[1]
    return not lost and all([change > 0 for _, change in gap_changes(block, one, other)])


def alike(block, one, other):
    """Tell whether END by one is END by other FOR ALL LATENCIES."""
    return compare(block, one, other) == "alike"


def compare(block, one, other):
    """Tell by a word how one is beside other: alike, better, worse or apart."""
    words = {(True, True): "alike", (True, False): "better", (False, True): "worse", (False, False): "apart"}
    return words[never_later(block, one, other), never_later(block, other, one)]


def slow_ones(block, one, other):
    """Give the least of the smallest sets of slow ones that alone can make one end later; None if none can."""
    shorter = [(name,) for name, change in gap_changes(block, one, other) if change < 0]
    lost = meet_changes(block, one, other)[1]
    # One is enough where a GAP is less; otherwise two are that meet in other alone.
    found = shorter + list(lost)
    return found[0] if found else None


def gap_changes(block, one, other):
    """Give the pairs (NAME, GAP in one less GAP in other) of the awaited ones whose GAPs are unlike."""
    ours, theirs = gaps_in(waits_in(block, one)), gaps_in(waits_in(block, other))
    return tuple([(name, ours[name] - theirs[name]) for name in ours if ours[name] != theirs[name]])


def meet_changes(block, one, other):
    """Give two sets of pairs of awaited ones: those that meet in one alone, and those that do in other alone."""
    ours, theirs = pairs_that_meet(waits_in(block, one)), pairs_that_meet(waits_in(block, other))
    return tuple([pair for pair in ours if pair not in theirs]), tuple([pair for pair in theirs if pair not in ours])


def later_by(block, one, other):
    """Give the greatest number by which END by one can be more than END by other; None if there is none."""
    if meet_changes(block, one, other)[1]:
        return None
    many = len(one)
    # With the GAPs in other as STALLs nothing is held up in other, and each set that adds up in one gains all it can.
    return end_by(many, waits_in(block, one), gaps_in(waits_in(block, other))) - many


def latencies_later(block, one, other, number):
    """Give LATENCIES with which END by one is by at least number more than END by other; None if there are none."""
    most = later_by(block, one, other)
    if most is not None and most < number:
        return None
    ours, theirs = gaps_in(waits_in(block, one)), gaps_in(waits_in(block, other))
    if most is not None:
        return latencies_of(block, [(name, theirs[name] + 1) for name in theirs])
    pair = meet_changes(block, one, other)[1][0]
    # Both grown by push hold up other by push alone, as they meet there, but one by twice as much.
    push = max(0, number - sum([theirs[name] - ours[name] for name in pair]))
    return latencies_of(block, [(name, theirs[name] + push + 1) for name in pair])


def is_latencies_later(block, one, other, number, thing):
    """Tell whether thing is LATENCIES with which END by one is by at least number more than END by other."""
    block = tupled(block)
    ours, theirs = told_order(block, one), told_order(block, other)
    if not is_latencies(block, thing):
        return False
    return end_of(block, ours, thing) - end_of(block, theirs, thing) >= number


def never_later_within(block, one, other, tops):
    """Tell whether END by one is at most END by other FOR ALL LATENCIES within tops."""
    return later_by_within(block, one, other, tops) == 0


def later_by_within(block, one, other, tops):
    """Give the greatest number by which END by one can be more than END by other within tops."""
    return max([more for more, _ in _lates_within(block, one, other, tops)])


def _lates_within(block, one, other, tops):
    """Give a list of pairs (more, some): how much later one ends than other if just these have their tops."""
    # A slow one outside of what makes END by one later does so no more if it takes 1, so sets that add up are enough;
    # and one inside can not make other later by more than it makes one, so its whole top is the best.
    ours, theirs = waits_in(block, one), waits_in(block, other)
    most = dict(tupled(tops))
    found = []
    for some in adding_sets(ours):
        stalls = {name: most[name] if name in some else 0 for name in ours}
        found.append((end_by(len(one), ours, stalls) - end_by(len(one), theirs, stalls), some))
    return found


def worst_set(block, one, other, tops):
    """Give the least of the smallest sets whose tops alone make one later by as much as can be within tops."""
    lates = _lates_within(block, one, other, tops)
    most = max([more for more, _ in lates])
    return min([(len(some), some) for more, some in lates if more == most])[1]


def safe_top(block, one, other):
    """Give the greatest number that as top of all keeps one from ending later; None if there is no greatest one."""
    if never_later(block, one, other):
        return None
    top = 0
    while never_later_within(block, one, other, [(name, top + 1) for name in slow_in(block)]):
        top = top + 1
    return top
