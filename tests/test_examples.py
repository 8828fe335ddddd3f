"""The examples that the document and README.md show, with the answers that stand there."""

import builtins
import doctest
import unittest
from pathlib import Path

from anylatency import (apart, best, blocks, board, desk, ends, great, issue, loops, moves, never, texts, told,
                        waits)

BLOCKS = r"""
>>> block = ((("a", (), True), ("b", (), True), ("c", ("a", "b"), False)), ("c",))
>>> wide = ((("a", (), True), ("b", (), True), ("u", ("a",), False), ("v", ("b",), False)), ("u", "v"))
>>> is_block(block), is_block(block[0]), names_in(wide), reads_of(wide, "u"), readers_of(wide, "a"), needs_of(block, "c"), needed_by(block, "b"), slow_in(block)
(True, False, ('a', 'b', 'u', 'v'), ('a',), ('u',), ('a', 'b'), ('c',), ('a', 'b'))
>>> how_many_orders(block), how_many_orders(wide), least_order(wide), order_at(wide, 5), number_of_order(wide, ("a", "u", "b", "v")), is_order(block, ("c", "a", "b")), is_order(block, ["a", "b", "c"])
(2, 6, ('a', 'b', 'u', 'v'), ('b', 'v', 'a', 'u'), 2, False, False)
>>> chain = with_row(block, ("b", ("a",), False))
>>> chain, slow_in(chain), awaited_in(without(block, "c")), awaited_in(with_live(without(block, "c"), ("a",)))
(((('a', (), True), ('b', ('a',), False), ('c', ('a', 'b'), False)), ('c',)), ('a',), (), ('a',))
>>> without(block, "c"), made_quick(block, ("a",))[0][0], made_slow(block, ("c",))[0][2], renamed(block, (("a", "b"), ("b", "a"))) == block, renamed(block, (("c", "z"),))[1]
(((('a', (), True), ('b', (), True)), ()), ('a', (), False), ('c', ('a', 'b'), True), True, ('z',))
>>> with_row(block, ("a", ("c",), True))
raises Needs()
>>> renamed(block, (("a", "c"),))
raises Twice(name='c')
>>> needs_of(block, "x")
raises NoName(name='x')
>>> number_of_order(block, ("c", "a", "b"))
raises NoOrder()
>>> order_at(wide, 6)
raises NoNumber(number=6)
"""

ISSUE = r"""
>>> wide = ((("a", (), True), ("b", (), True), ("u", ("a",), False), ("v", ("b",), False)), ("u", "v"))
>>> first, other = ("a", "u", "b", "v"), ("a", "b", "u", "v")
>>> told = latencies_of(wide, (("a", 3),))
>>> told, issue_ticks(wide, first, told), come_ticks(wide, first, told), end_of(wide, first, told), end_of(wide, other, told)
((('a', 3), ('b', 1)), (0, 3, 4, 5), (3, 4, 5, 6), 6, 5)
>>> idle_stretches(wide, first, told), how_many_idle(wide, first, told), held_up(wide, first, told), issued_at(wide, first, told, 3), issued_at(wide, first, told, 1)
(((1, 2),), 2, ((), ('a',), (), ()), 'u', None)
>>> on_way(wide, first, told, 2), on_way(wide, first, told, 3), most_on_way(wide, first, told), most_on_way(wide, other, told), slack_of(wide, other, told, "a"), slack_of(wide, other, told, "b")
(('a',), (), 1, 2, 0, 2)
>>> quickest_order(wide, told), quickest_order(wide, latencies_of(wide, ())), is_latencies(wide, told), is_latencies(wide, told[:1])
((('a', 'b', 'v', 'u'), 4), (('a', 'b', 'u', 'v'), 4), True, False)
>>> latencies_of(wide, (("u", 2),))
raises NoName(name='u')
>>> end_of(wide, ("u", "a", "b", "v"), told)
raises NoOrder()
"""

WAITS = r"""
>>> block = ((("a", (), True), ("b", (), True), ("c", ("a", "b"), False), ("d", ("c",), True), ("e", (), True)), ("d",))
>>> order, turned = ("a", "b", "c", "d", "e"), ("b", "e", "a", "c", "d")
>>> [first_reader(block, order, name) for name in "abcde"], [wait_of(block, order, name) for name in "abcde"], gap_of(block, order, "a"), gap_of(block, order, "e")
([2, 2, 3, 5, 5], [(0, 2), (1, 2), None, (3, 5), None], 1, None)
>>> gaps(block, order), gaps(block, turned), meeting(block, order), meets(block, order, "d", "a"), meets(block, order, "b", "a"), meets(block, order, "a", "c")
((('a', 1), ('b', 0), ('d', 1)), (('a', 0), ('b', 2), ('d', 0)), (('a', 'b'),), False, True, False)
>>> adds_up(block, order, ("a", "d")), adds_up(block, order, ("a", "b")), adds_up(block, order, ("e",)), adds_up(block, order, ()), adding(block, order), how_many_adding(block, turned)
(True, False, False, True, [(), ('a',), ('a', 'd'), ('b',), ('b', 'd'), ('d',)], 6)
>>> is_most_adding(block, order, ("b", "d")), is_most_adding(block, order, ("a",)), is_most_adding(block, order, most_adding(block, order)), [at_once(block, order, place) for place in range(-1, 6)], most_at_once(block, order)
(True, False, True, [(), ('a',), ('a', 'b'), (), ('d',), ('d',), ()], 2)
>>> len(parted(block, order)), is_parted(block, order, parted(block, order)), is_parted(block, order, (("b", "d"), ("a",))), is_parted(block, order, (("a",), ("b",), ("d",))), is_parted(block, order, (("a", "b"), ("d",)))
(2, True, True, False, False)
>>> gaps(block, ("a", "c", "b", "d", "e"))
raises NoOrder()
>>> gap_of(block, order, "x")
raises NoName(name='x')
"""

ENDS = r"""
>>> block = ((("a", (), True), ("b", (), True), ("c", ("a", "b"), False), ("d", ("c",), True), ("e", (), True)), ("d",))
>>> order, lasts = ("a", "b", "c", "d", "e"), (("a", 4), ("b", 6), ("d", 3), ("e", 9))
>>> end_of(block, order, lasts), end_from(block, order, lasts, ("b", "d")), end_from(block, order, lasts, ("a", "d")), end_from(block, order, lasts, ()), end_from(block, order, lasts, ("a", "b")), makers(block, order, lasts)
(11, 11, 8, 5, None, [('b', 'd')])
>>> even = (("a", 6), ("b", 5), ("d", 1), ("e", 9))
>>> end_of(block, order, even), makers(block, order, even), which_matter(block, order, even), which_hold(block, order, even), which_hold(block, order, lasts), is_maker(block, order, even, maker(block, order, even)), is_maker(block, order, even, ("a", "b"))
(9, [('a',), ('b',)], ('a', 'b'), (), ('b', 'd'), True, False)
>>> end_range(block, order, (("a", 1), ("b", 1), ("d", 1), ("e", 1)), lasts), [worth(block, order, lasts, name) for name in "abcde"]
((5, 11), [0, 3, 0, 1, 0])
>>> [fewest_quick(block, order, lasts, end) for end in (11, 10, 8, 7, 5, 4)], end_of(block, order, latencies_reaching(block, order, 9)), end_of(block, order, latencies_reaching(block, order, 5)), latencies_reaching(block, order, 4)
([(), ('b',), ('b',), ('a', 'b'), ('a', 'b', 'd'), None], 9, 5, None)
>>> worth(block, order, lasts, "x")
raises NoName(name='x')
"""

NEVER = r"""
>>> block = ((("a", (), True), ("b", (), True), ("u", ("a",), False), ("v", ("b",), False)), ("u", "v"))
>>> plain, close, far = ("a", "u", "b", "v"), ("a", "b", "u", "v"), ("a", "b", "v", "u")
>>> never_later(block, close, plain), never_later(block, plain, close), alike(block, close, ("b", "a", "v", "u")), compare(block, close, plain), compare(block, plain, close), compare(block, close, far)
(True, False, True, 'better', 'worse', 'apart')
>>> slow_ones(block, plain, close), slow_ones(block, far, close), slow_ones(block, close, plain), gap_changes(block, close, far), meet_changes(block, close, plain)
(('a',), ('b',), None, (('a', -1), ('b', 1)), ((('a', 'b'),), ()))
>>> later_by(block, plain, close), later_by(block, close, far), later_by(block, close, plain), latencies_later(block, close, far, 2), latencies_later(block, close, far, 1) is None
(None, 1, 0, None, False)
>>> is_latencies_later(block, close, far, 1, (("a", 5), ("b", 1))), is_latencies_later(block, close, far, 1, (("a", 2), ("b", 1))), is_latencies_later(block, plain, close, 9, latencies_later(block, plain, close, 9))
(True, False, True)
>>> small = (("a", 1), ("b", 1))
>>> never_later_within(block, close, far, small), later_by_within(block, plain, close, small), worst_set(block, plain, close, small), later_by_within(block, close, far, (("a", 2), ("b", 9))), worst_set(block, close, far, (("a", 2), ("b", 9))), worst_set(block, close, far, small)
(True, 2, ('a', 'b'), 1, ('a',), ())
>>> safe_top(block, close, far), safe_top(block, plain, close), safe_top(block, close, plain)
(1, 0, None)
>>> wide = ((("a", (), True), ("b", (), True), ("u", ("a",), False), ("v", ("b",), False), ("x", (), False), ("y", (), False)), ("u", "v"))
>>> slow_ones(wide, ("a", "x", "u", "b", "y", "v"), ("a", "b", "u", "v", "x", "y")), gap_changes(wide, ("a", "x", "u", "b", "y", "v"), ("a", "b", "u", "v", "x", "y"))
(('a', 'b'), ())
>>> never_later(block, ("u", "a", "b", "v"), close)
raises NoOrder()
"""

MOVES = r"""
>>> block = ((("a", (), True), ("b", (), True), ("u", ("a",), False), ("v", ("b",), False)), ("u", "v"))
>>> plain, close = ("a", "u", "b", "v"), ("a", "b", "u", "v")
>>> exchanged(block, plain, 1), effect(block, plain, 1), gap_effects(block, plain, 1), [effect(block, close, place) for place in range(3)], gap_effects(block, close, 0)
(('a', 'b', 'u', 'v'), 'better', (('a', 1), ('b', 1)), ['apart', 'worse', 'apart'], (('a', -1), ('b', 1)))
>>> free_places(block, plain), better_places(block, plain), free_places(block, close), climbed(block, plain), climbed(block, close)
((1,), (1,), (), ('a', 'b', 'u', 'v'), ('a', 'b', 'u', 'v'))
>>> moved(block, plain, "b", 0), places_for(block, plain, "b"), free_for(block, plain, "b"), free_for(block, close, "b"), places_for(block, plain, "u")
(('b', 'a', 'u', 'v'), (0, 1, 2), (0, 1, 2), (1,), (1, 2, 3))
>>> free_way(block, plain, close), fewest_free(block, plain, close), free_way(block, close, plain), free_way(block, plain, ("b", "a", "u", "v")), free_way(block, plain, plain)
((1,), 1, None, None, ())
>>> is_free_way(block, plain, close, (1,)), is_free_way(block, plain, close, (1, 1, 1)), is_free_way(block, plain, close, [1])
(True, False, False)
>>> paused(block, plain, "n", 1)[1], paused(block, plain, "n", 1)[0][0][2], hidden_under(block, plain, 1), hidden_under(block, plain, 2), hidden_under(block, close, 2)
(('a', 'n', 'u', 'b', 'v'), ('n', (), False), ('a',), (), ('a', 'b'))
>>> pause_cost(block, plain, 1, (("a", 3), ("b", 1))), pause_cost(block, plain, 1, (("a", 1), ("b", 1))), pause_cost(block, plain, 0, (("a", 3), ("b", 1)))
(0, 1, 1)
>>> exchanged(block, plain, 0)
raises Needs()
>>> exchanged(block, plain, 3)
raises NoNumber(number=3)
>>> paused(block, plain, "b", 9)
raises Twice(name='b')
"""

APART = r"""
>>> block = ((("a", (), True), ("b", (), True), ("u", ("a",), False), ("v", ("b",), False)), ("u", "v"))
>>> greatest_gap(block, "a"), greatest_gap(block, "u"), order_with_gap(block, "a", 2), order_with_gap(block, "a", 3), is_order_with_gap(block, "a", 1, ("a", "b", "u", "v")), is_order_with_gap(block, "a", 1, ("a", "u", "b", "v"))
(2, None, ('a', 'b', 'v', 'u'), None, True, False)
>>> can_meet(block, "a", "b"), can_meet(block, "a", "u"), can_part(block, "b", "a"), can_part(block, "a", "a"), meetable(block), always_meeting(block), how_many_meeting(block, (("b", "a"),)), how_many_meeting(block, ()), ring_of(block, (("a", "b"),)), great_meetings(block)
(True, False, True, False, (('a', 'b'),), (), 4, 6, None, [(('a', 'b'),)])
>>> cross = ((("a", (), True), ("b", (), True), ("p", ("r",), True), ("q", ("s",), True), ("r", ("a",), False), ("s", ("b",), False)), ("p", "q"))
>>> greatest_gap(cross, "a"), greatest_gap(cross, "p"), can_meet(cross, "a", "p"), can_part(cross, "a", "p"), meetable(cross), always_meeting(cross)
(3, 3, False, True, (('a', 'b'), ('a', 'q'), ('b', 'p'), ('p', 'q')), (('p', 'q'),))
>>> can_all_meet(cross, (("a", "q"), ("b", "p"))), order_meeting(cross, (("a", "q"), ("b", "p"))), is_ring(cross, (("a", "q"), ("b", "p")), ("p", "s", "q", "r")), is_ring(cross, (("a", "q"),), ("p", "s", "q", "r")), is_ring(cross, (("a", "q"), ("p", "b")), ring_of(cross, (("a", "q"), ("p", "b")))), is_ring(cross, (("a", "p"),), ("p", "r")), is_ring(cross, (("b", "p"),), ("p", "s"))
(False, None, True, False, True, True, False)
>>> how_many_meeting(cross, (("a", "q"),)), is_order_meeting(cross, (("a", "q"), ("a", "b")), ("b", "a", "s", "q", "r", "p")), is_order_meeting(cross, (("a", "q"), ("a", "b")), ("b", "s", "a", "q", "r", "p")), great_meetings(cross)
(4, True, False, [(('a', 'b'), ('a', 'q'), ('p', 'q')), (('a', 'b'), ('b', 'p'), ('p', 'q'))])
>>> can_meet(block, "a", "z")
raises NoName(name='z')
"""

BEST = r"""
>>> block = ((("a", (), True), ("b", (), True), ("u", ("a",), False), ("v", ("b",), False)), ("u", "v"))
>>> key_of(block, ("a", "b", "u", "v")), key_of(block, ("a", "u", "b", "v")), len(classes(block)), classes(block)[0], orders_of(block, key_of(block, ("a", "b", "u", "v"))), how_many_in(block, ((), ()))
(((('a', 1), ('b', 1)), (('a', 'b'),)), ((('a', 0), ('b', 0)), ()), 4, ((('a', 0), ('b', 0)), ()), [('a', 'b', 'u', 'v'), ('b', 'a', 'v', 'u')], 0)
>>> is_never_beaten(block, ("a", "b", "v", "u")), is_never_beaten(block, ("a", "u", "b", "v")), never_beaten(block) == classes(block)[1:], beaten_by(block, ("b", "a", "u", "v")), is_beaten_by(block, ("a", "u", "b", "v"), ("b", "a", "u", "v")), is_beaten_by(block, ("a", "u", "b", "v"), ("b", "v", "a", "u"))
(True, False, True, None, True, False)
>>> best(block), is_best(block, ("a", "b", "u", "v")), regret(block, ("a", "b", "u", "v")), regret(block, ("a", "b", "v", "u")), regret(block, ("a", "u", "b", "v")), least_regret(block), is_calmest(block, calmest(block)), is_calmest(block, ("b", "a", "v", "u")), safest_gap(block), is_safest(block, ("b", "a", "v", "u")), is_safest(block, ("a", "b", "v", "u"))
(None, False, 1, 2, None, 1, True, True, 1, True, False)
>>> lone = ((("a", (), True), ("q", (), False), ("u", ("a",), False)), ("u",))
>>> best(lone), is_best(lone, ("q", "a", "u")), regret(lone, ("q", "a", "u")), regret(lone, ("a", "q", "u")), safest_gap(lone), safest(lone), never_beaten(lone), best(((), ())), classes(((), ())), safest_gap(((), ())), least_regret(((), ()))
(('a', 'q', 'u'), False, 1, 0, 1, ('a', 'q', 'u'), [((('a', 1),), ())], (), [((), ())], None, 0)
>>> regret(block, ("a", "b", "u"))
raises NoOrder()
"""

LOOPS = r"""
>>> loop = (((("a", (), True), ("u", (), False)), ("u",)), (("a", "u"),))
>>> late, soon = ("u", "a"), ("a", "u")
>>> carried_readers(loop, "a"), awaited_in_rounds(loop), round_gap(loop, late, "a", False), round_gap(loop, soon, "a", False), round_gap(loop, soon, "a", True)
(('u',), (('a',), ()), 0, 2, None)
>>> joint_meeting(loop, late), joint_meeting(loop, soon)
((), (('a', 'a'),))
>>> five = (("a", 5),)
>>> [rounds_end(loop, late, five, rounds) for rounds in (1, 2, 3)], [rounds_end(loop, soon, five, rounds) for rounds in (1, 2, 3)], rounds_end(loop, late, five, 10 ** 40) == 6 * 10 ** 40 - 4
([2, 8, 14], [2, 6, 8], True)
>>> pace(loop, late, five), pace(loop, soon, five), pace(loop, soon, (("a", 4),)), pace(loop, soon, (("a", 3),))
((6, 1), (3, 1), (5, 2), (2, 1))
>>> loop_never_later(loop, soon, late), loop_never_later(loop, late, soon), first_later(loop, late, soon), loop_slow_ones(loop, late, soon), loop_slow_ones(loop, soon, late)
(True, False, 2, ((0, 'a'),), None)
>>> [loop_later_by(loop, late, soon, rounds) for rounds in (1, 2, 3)], loop_later_by(loop, soon, late, 10 ** 40), loop_alike(loop, soon, late)
([0, 2, None], 0, False)
>>> both = (((("a", (), True), ("b", (), True), ("u", ("b",), False)), ("u",)), (("a", "u"), ("b", "b")))
>>> is_loop(both), is_loop((both[0], (("a", "x"),))), is_loop((both[0], (("b", "b"), ("a", "u")))), carried_readers(both, "b"), carried_readers(both, "u")
(True, False, False, ('b',), ())
>>> [round_gap(both, ("a", "b", "u"), name, False) for name in ("a", "b", "u")], round_gap(both, ("a", "b", "u"), "b", True), joint_meeting(both, ("a", "b", "u")), joint_meeting(both, ("b", "u", "a"))
([4, 0, None], 0, (('a', 'a'), ('a', 'b')), (('a', 'b'),))
>>> first_later(both, ("b", "u", "a"), ("a", "b", "u")), loop_slow_ones(both, ("b", "u", "a"), ("a", "b", "u")), first_later(both, ("a", "b", "u"), ("b", "u", "a"))
(2, ((0, 'a'),), None)
>>> carried_readers(both, "x")
raises NoName(name='x')
>>> rounds_end(loop, ("a",), five, 3)
raises NoOrder()
"""

TOLD = r"""
>>> block = ((("a", (), True), ("b", (), True), ("c", ("a", "b"), False)), ("c",))
>>> long = (("a", 5), ("b", 1))
>>> orders_that_fit(block, ()), orders_that_fit(block, ((long, 6),)), orders_that_fit(block, ((long, 8),)), fits_readings(block, ("b", "a", "c"), ((long, 7),))
([('a', 'b', 'c'), ('b', 'a', 'c')], [('a', 'b', 'c')], [], True)
>>> keys_that_fit(block, ((long, 7),)), known_gaps(block, ()), known_gaps(block, ((long, 6),)), sure_meets(block, ())
([((('a', 0), ('b', 1)), (('a', 'b'),))], (('a', 0, 1), ('b', 0, 1)), (('a', 1, 1), ('b', 0, 0)), ((('a', 'b'),), ()))
>>> next_ends(block, (), long), next_ends(block, ((long, 6),), (("a", 2), ("b", 4))), next_ends(block, ((long, 8),), long), known_gaps(block, ((long, 8),))
([6, 7], [6], [], None)
>>> first_misfit(block, ((long, 6), (long, 7), (long, 8))), first_misfit(block, ((long, 6), (long, 6))), best_ask(block, (), ((("a", 1), ("b", 1)), long)), best_ask(block, (), ())
(1, None, 1, None)
>>> gap_ask(block, "a"), pair_ask(block, "b", "a")
((('a', 4), ('b', 1)), (('a', 7), ('b', 7)))
>>> asked = []
>>> told_back(block, lambda latencies: asked.append(latencies) or (6 if latencies[0][1] == 4 else 5 if latencies[0][1] == 1 else 9))
('b', 'a', 'c')
>>> asked == [gap_ask(block, "a"), gap_ask(block, "b"), pair_ask(block, "a", "b")], told_back(block, lambda latencies: 3), is_readings(block, ((long, 6),)), is_readings(block, ((long, True),)), is_readings(block, (((("a", 5),), 6),))
(True, None, True, False, False)
>>> gap_ask(block, "c")
raises NoName(name='c')
"""

GREAT = r"""
>>> late, soon = (10 ** 20, (("a", 0, 1), ("b", 10 ** 10, 10 ** 20))), (10 ** 20, (("a", 0, 10 ** 15), ("b", 10 ** 10, 10 ** 20)))
>>> long_gaps(soon) == (("a", 10 ** 15 - 1), ("b", 10 ** 20 - 10 ** 10 - 1)), long_meeting(late), long_meeting(soon), long_most(late), long_most(soon)
(True, (), (('a', 'b'),), 1, 2)
>>> long_end(late, (("a", 8), ("b", 10 ** 20))) - 10 ** 20 == 7 + 10 ** 10, long_end(soon, (("a", 8), ("b", 1))) == 10 ** 20, long_end(soon, (("a", 10 ** 16), ("b", 1))) - 10 ** 20 == 9 * 10 ** 15
(True, True, True)
>>> long_never_later(soon, late), long_never_later(late, soon), long_later_by(late, soon), long_later_by(soon, late)
(True, False, None, 0)
>>> long_later_by((9, (("a", 0, 2), ("b", 3, 4))), (9, (("a", 0, 4), ("b", 5, 9)))), is_long((3, (("a", 0, 4),))), is_long((0, ()))
(5, False, True)
>>> long_later_by((9, ()), (8, ()))
raises OtherNames()
"""

BOARD = r"""
>>> board = Board(block_in("a*; b*; u a; v b | u v"))
>>> board["one"], board["two"] = ("a", "u", "b", "v"), ("a", "b", "u", "v")
>>> board.end("one"), board.learn("a", 5), board.end("one"), board.end("two"), board.learn("b", 3), board.end("one"), board.end("two"), board.first(), board.known
(4, None, 8, 7, None, 10, 7, ('two',), (('a', 5), ('b', 3)))
>>> board.above("one"), board.above("two"), board.effect("two", ("a", "b", "v", "u")), board.effect("one", ("b", "v", "a", "u")), board.doubled()
(('two',), (), 'either', 'alike', ())
>>> board += ("two", ("u", "v"))
>>> board["two"], board.end("two"), board.undo(), board["two"], board.forget("a"), board.end("two"), board.block
(('a', 'b', 'v', 'u'), 6, True, ('a', 'b', 'u', 'v'), None, 5, ((('a', (), True), ('b', (), True), ('u', ('a',), False), ('v', ('b',), False)), ('u', 'v')))
>>> board.frame("one", ("b", "v", "a", "u"), ("a", "b", "u", "v")), board.frames
(None, (('one', ('b', 'v', 'a', 'u'), ('a', 'b', 'u', 'v')),))
>>> board.attempt((("set", "one", ("a", "b", "v", "u")),))
raises Stopped(number=0, raised='Outside', value='one')
>>> board.attempt((("add", "one", "a", "u"),))
raises Stopped(number=0, raised='NoOrder', value=None)
>>> board.attempt((("learn", "a", 9), ("forget", "u")))
raises Stopped(number=1, raised='NoName', value='u')
"""

TEXTS = r"""
>>> block_text(((("a", (), True), ("u", ("a",), False)), ())), block_text(((), ())), block_in("a; b* a | b")
('a*; u a | -', '- | -', ((('a', (), False), ('b', ('a',), True)), ('b',)))
>>> block_in("b; a | -")
raises BadText()
>>> made = board_in("block a*; b*; u a; v b | u v\nknown a=5\nx: a b u v\nx from a u b v .. *\nend")
>>> made.known, made.end("x"), made["x"], made.frames, made.undo(), board_text(made), board_text(Board())
((('a', 5),), 7, ('a', 'b', 'u', 'v'), (('x', ('a', 'u', 'b', 'v'), None),), False, 'block a*; b*; u a; v b | u v\nknown a=5\nx: a b u v\nx from a u b v .. *\nend', 'block - | -\nknown\nend')
>>> board_in("block a*; u a | u\nknown u=5\nend")
raises BadLine(number=1)
>>> answers("block a*; b*; u a; v b | u v\norder one a u b v\norder two a b u v\nend one\nlearn a 5\nend one\nend two\nlearn b 3\nfirst\nabove one\neffect one b v a u\nadd two u v\nend two\nundo\nforget a\nend two\nframe one from b v a u .. a b u v\norder one a b v u\nadd one a u\nforget u\nforget a\nlearn u 3\nlift two\nabove x\ndoubled\norder y a b\nadd one a z")
['done', 'done', 'done', '4', 'done', '8', '7', 'done', 'two', 'two', 'alike', 'done', '6', 'yes', 'done', '5', 'done', 'refused Outside', 'refused NoOrder', 'refused NoName', 'refused NotKnown', 'refused NoName', 'refused NoFrame', 'refused NoEntry', '-', 'refused NoOrder', 'refused NoName']
>>> answers(""), answers("block - | -\nundo\nfirst\ndoubled\norder x -\nend x\nfirst\nfirst")
([], ['done', 'no', '-', '-', 'done', '0', 'x', 'x'])
>>> answers("block b; a | -")
raises BadLine(number=0)
"""


def steps_of(text):
    """The pairs (code, answer) of the text; the answer is None where none stands."""
    steps = []
    for line in text.strip().split("\n"):
        if line.startswith(">>> "):
            steps.append([line[4:], None])
        else:
            steps[-1][1] = line
    return steps


def shown(raised):
    kept = ", ".join(f"{word}={value!r}" for word, value in vars(raised).items())
    return f"raises {raised.__class__.__name__}({kept})"


class ExamplesTest(unittest.TestCase):
    def go_through(self, text, *modules):
        names = {}
        for module in modules:
            names.update({word: value for word, value in vars(module).items() if not word.startswith("_")})
        asked = 0
        for code, answer in steps_of(text):
            with self.subTest(code=code):
                if answer is None:
                    exec(code, names)
                    continue
                asked += 1
                try:
                    answered = repr(eval(code, names))
                except (LookupError, ValueError) as raised:
                    answered = shown(raised)
                self.assertEqual(answered, answer)
        return asked

    def test_blocks(self):
        self.assertEqual(self.go_through(BLOCKS, blocks), 9)

    def test_issue(self):
        self.assertEqual(self.go_through(ISSUE, blocks, issue), 6)

    def test_waits(self):
        self.assertEqual(self.go_through(WAITS, waits), 7)

    def test_ends(self):
        self.assertEqual(self.go_through(ENDS, issue, ends), 5)

    def test_never(self):
        self.assertEqual(self.go_through(NEVER, never), 8)

    def test_moves(self):
        self.assertEqual(self.go_through(MOVES, moves), 10)

    def test_apart(self):
        self.assertEqual(self.go_through(APART, apart), 6)

    def test_best(self):
        self.assertEqual(self.go_through(BEST, best), 5)

    def test_loops(self):
        self.assertEqual(self.go_through(LOOPS, loops), 11)

    def test_told(self):
        self.assertEqual(self.go_through(TOLD, told), 8)

    def test_great(self):
        self.assertEqual(self.go_through(GREAT, great), 5)

    def test_board(self):
        self.assertEqual(self.go_through(BOARD, board, texts), 7)

    def test_texts(self):
        self.assertEqual(self.go_through(TEXTS, board, texts, desk), 7)

    def test_readme(self):
        # What doctest shows it keeps under this name for all modules.
        self.addCleanup(vars(builtins).pop, "_", None)
        failed, tried = doctest.testfile(str(Path(__file__).resolve().parent.parent / "README.md"), False)
        self.assertEqual(failed, 0)
        self.assertGreater(tried, 10)


if __name__ == "__main__":
    unittest.main()
