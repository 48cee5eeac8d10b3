"""The examples of DOC.md for the files that are written, as they stand there."""

import doctest
import os
import re
import unittest

README = os.path.join(os.path.dirname(os.path.dirname(os.path.abspath(__file__))), "README.md")

FORMS_AND_SLOPES = r'''
>>> from hownarrow.forms import corners_at, is_end, is_label, is_picture, is_range, is_slope, is_table, is_wish
>>> from hownarrow.slopes import added, are_neighbours, less_steep, lies_in, simpler, simplest_first, slopes_between, slopes_up_to
>>> pockets = (((0, 0, 0), "a"), ((0, 0, 1), "b"), ((0, 1, 0), "c"), ((0, 1, 1), "d"))
>>> bare = (1, 1, (None,), (None,), (), ())
>>> [is_table((1, 1, (None,), (None,), (), pockets)), is_table(bare), is_table((1, 1, (0,), (None,), (), pockets))]
[True, True, False]
>>> corners_at((0,), (None,), (0, 1, 0))
((0, 0, 0), (0, 1, 0))
>>> [corners_at((1, None), (None, 0), (0, 0, 0)), is_label(bare, (0, 1, 0, 0)), is_label(bare, (0, 1, 0, 1))]
[((0, 0, 0), (0, 1, 1), (1, 0, 1)), True, False]
>>> [is_end((1, 0)), is_slope((1, 0)), is_slope((2, 4)), is_range(((1, 0), (0, 1))), is_range(((1, 1), (1, 1)))]
[True, False, False, True, False]
>>> [is_picture(((1, 0), (0, 1), (None, ("", 0)))), is_picture(((0, 1), (0, 1), (None, None))), is_wish((("", "a"), (0,), 1, 9, False))]
[True, False, True]
>>> [less_steep((2, 1), (1, 1)), added((1, 0), (0, 1)), are_neighbours((1, 0), (3, 1)), are_neighbours((1, 0), (1, 2))]
[True, (1, 1), True, False]
>>> [simpler((1, 2), (2, 1)), lies_in(((2, 1), (1, 1)), (3, 2)), simplest_first([(3, 2), (2, 1), (1, 2), (2, 1)])]
[True, True, [(1, 2), (2, 1), (3, 2)]]
>>> [slopes_up_to(4), slopes_between(((1, 0), (1, 1)), 5)]
[[(1, 1), (1, 2), (2, 1), (1, 3), (3, 1)], [(2, 1), (3, 1), (3, 2), (4, 1)]]
'''

TABLES = r'''
>>> from hownarrow.drawings import drawn, lies_at, read_drawing
>>> from hownarrow.otherwise import mirrored, refined, refined_corner, renamed, turned, with_join, without_join
>>> from hownarrow.tables import edge_ahead, edges_of, joined_to, made_table, permutation_of, pocket_at, point_of, points_of, table_fault
>>> from hownarrow.tabletexts import read_table, show_table
>>> two = (2, 1, (1, None), (None, None), (), (((0, 0, 0), "a"),))
>>> edges_of(two)
(('down', 0), ('down', 1), ('left', 0), ('right', 0), ('right', 1), ('up', 0), ('up', 1))
>>> [edge_ahead(two, (1, 1, 0, 0), False), joined_to(two, ("right", 0)), joined_to(two, ("right", 1)), edge_ahead(two, (1, 1, 0, 0), True)]
[('right', 0), 1, None, ('up', 1)]
>>> [point_of(two, (1, 0, 1)), len(points_of(two)), pocket_at(two, (0, 0, 0)), pocket_at(two, (1, 1, 1))]
[((0, 1, 1), (1, 0, 1)), 6, 'a', None]
>>> made_table(2, 2, [1, None], [None, None], [("left", 1, (1, 0))], [((1, 0, 0), "mid")])
(2, 2, (1, None), (None, None), ((('right', 0), (1, 0)),), (((0, 1, 0), 'mid'),))
>>> [table_fault(two), table_fault(two[:5]), table_fault((2, 1, (1, 1), (None, None), (), ())), permutation_of(two, ("up", 1))]
[None, 'form', 'rights', (0,)]
>>> show_table(two)
'cells 2\nmarks 1\nright 0 1\npocket 0 0 0 a'
>>> read_table("cells 2\n marks  2\n\nright 0 1\ndial right 0 1 0\npocket 0 1 0 mid")
(2, 2, (1, None), (None, None), ((('right', 0), (1, 0)),), (((0, 1, 0), 'mid'),))
>>> bend = (3, 1, (1, None, None), (2, None, None), (), (((1, 1, 0), "a"),))
>>> drawn(bend, ((0, 0), (1, 0), (0, 1))).split("\n")
['+-+', '|.|', '+ +-+', '|. .|', '+-+-a']
>>> [lies_at(bend, ((0, 0), (1, 0), (0, 1))), lies_at(bend, ((0, 0), (1, 0), (1, 1)))]
[True, False]
>>> read_drawing("+-+\n|.|\n+ +-+\n|. .|\n+-+-a")
((3, 1, (2, None, None), (1, None, None), (), (((2, 1, 0), 'a'),)), ((0, 0), (0, 1), (1, 0)))
>>> [mirrored(two, False), turned(two), renamed(two, (1, 0))]
[(2, 1, (None, 0), (None, None), (), (((0, 1, 0), 'a'),)), (2, 1, (None, None), (1, None), (), (((0, 0, 0), 'a'),)), (2, 1, (None, 0), (None, None), (), (((1, 0, 0), 'a'),))]
>>> [refined((1, 1, (None,), (None,), (), (((0, 1, 1), "b"),)), 2), refined_corner(2, (0, 1, 1))]
[(4, 1, (1, None, 3, None), (2, 3, None, None), (), (((3, 1, 1), 'b'),)), (3, 1, 1)]
>>> [with_join(two, "right", 1, 0), with_join(two, "right", 0, 0), without_join(two, "right", 0)]
[(2, 1, (1, 0), (None, None), (), (((0, 0, 0), 'a'),)), None, (2, 1, (None, None), (None, None), (), (((0, 0, 0), 'a'),))]
'''

BALLS = r'''
>>> from hownarrow.balls import contrary, shot, stretch, track
>>> from hownarrow.labels import about, from_sideways, from_up, labels_of, sideways, up
>>> from hownarrow.places import place_at, times_over
>>> box = (1, 1, (None,), (None,), (), (((0, 0, 0), "home"), ((0, 0, 1), "left"), ((0, 1, 0), "low"), ((0, 1, 1), "far")))
>>> spot = (0, 0, 0, 0)
>>> [labels_of(box), sideways(box, spot), up(box, spot), about((0, 0, 1, 0))]
[((0, 0, 0, 0), (0, 0, 1, 0), (0, 1, 0, 0), (0, 1, 1, 0)), (0, 1, 0, 0), (0, 0, 1, 0), (0, 1, 0, 0)]
>>> [stretch(box, spot, (2, 1)), shot(box, spot, (2, 1)), shot(box, spot, (3, 5)), shot(box, spot, (1, 4)), track(box, spot, (1, 1))]
[(((('right', 0), (0, 1, 0, 0)),), (0, 0, 1, 0)), ('falls', 'left', 0, 1), ('falls', 'far', 0, 1), ('falls', 'low', 0, 1), ((0, 0, 0, 0), (0, 1, 1, 0))]
>>> pair = (2, 2, (1, None), (None, None), ((("right", 0), (1, 0)),), ())
>>> [sideways(pair, (0, 0, 0, 0)), sideways(pair, (1, 1, 0, 1)), from_sideways(pair, (1, 0, 0, 1)), from_up(pair, (0, 0, 0, 0))]
[(1, 0, 0, 1), (0, 1, 0, 0), (0, 0, 0, 0), (0, 0, 1, 0)]
>>> [shot(pair, spot, (1, 1)), track(pair, spot, (1, 1))]
[('round', 4), ((0, 0, 0, 0), (1, 0, 1, 1), (1, 1, 0, 1), (0, 1, 1, 0), (0, 0, 0, 0))]
>>> [stretch(pair, spot, (2, 1)), shot(pair, spot, (2, 1)), contrary(pair, spot, (2, 1)), stretch(pair, (1, 1, 1, 1), (2, 1))[0]]
[(((('right', 0), (1, 0, 0, 1)),), (1, 1, 1, 1)), ('round', 2), (1, 1, 1, 1), ((('right', 0), (0, 1, 1, 0)),)]
>>> [place_at(pair, spot, (1, 1), time) for time in ((0, 1), (1, 2), (1, 1), (3, 2), (9, 2))]
[(0, (0, 1), (0, 1), 0), (0, (1, 2), (1, 2), 0), (0, (1, 1), (1, 1), 0), (1, (1, 2), (1, 2), 1), (0, (1, 2), (1, 2), 0)]
>>> [place_at(box, spot, (2, 1), (3, 4)), place_at(box, spot, (2, 1), (1, 1)), times_over(pair, spot, (2, 1), ("right", 0)), times_over(pair, spot, (2, 1), ("down", 1))]
[(0, (1, 2), (3, 4), 0), (0, (0, 1), (1, 1), 0), ((1, 2), (3, 2)), ()]
'''

POINTS_AND_SQUARES = r'''
>>> from hownarrow.points import falls_of, holes_of, is_free, kept_labels, quarters_many
>>> from hownarrow.squares import kinds_of, number_of, often, one_then, order_of, rounds_of, sides_of, turned_back, turns_at, turns_of, ups_of
>>> one = (1, 1, (None,), (None,), (), (((0, 1, 1), "d"),))
>>> [kept_labels(one) == ((0, 0, 0, 0), (0, 0, 1, 0), (0, 1, 0, 0), (0, 1, 1, 0)), holes_of(one), falls_of(one)]
[True, (), {(0, 1, 1): 'd'}]
>>> [sides_of(one), ups_of(one), one_then(sides_of(one), ups_of(one)), kinds_of(one)]
[(2, 3, 0, 1), (1, 0, 3, 2), (3, 2, 1, 0), (None, None, None, ('d', 0))]
>>> bent = (3, 1, (1, None, None), (2, None, None), (), ())
>>> [holes_of(bent), falls_of(bent), quarters_many(bent, (2, 1, 0)), is_free(bent, (1, 0, 1)), is_free(bent, (1, 1, 1))]
[((0, 1, 1),), {(0, 1, 1): ''}, 3, False, True]
>>> [number_of(bent, (1, 0, 1, 0)), turns_of(bent), turns_at(bent, (0, 1, 1))]
[5, (0, 1, 2, 5, 4, 10, 6, 7, 8, 9, 3, 11), [((0, 1, 1, 0), (1, 0, 1, 0), (2, 1, 0, 0))]]
>>> [turns_at(bent, (0, 0, 1)), rounds_of(turns_of(one)), order_of(turns_of(bent))]
[[((0, 0, 1, 0),), ((2, 0, 0, 0),)], [(0,), (1,), (2,), (3,)], 3]
>>> [turned_back((1, 2, 0)), often((1, 2, 0), 10 ** 12 + 1), rounds_of((1, 2, 0, 3))]
[(2, 0, 1), (2, 0, 1), [(0, 1, 2), (3,)]]
'''

WORDS = r'''
>>> from hownarrow.crossings import crossings_of, straight, way_of
>>> from hownarrow.ranges import cover_of, node_in, simplest_in
>>> from hownarrow.words import exchanged, neighbours_of, range_of, runs_of, slope_of, word_by, word_of
>>> [word_of((1, 1)), word_of((5, 2)), neighbours_of("llr"), slope_of("llr"), slope_of("")]
['', 'llr', ((3, 1), (2, 1)), (5, 2), (1, 1)]
>>> [range_of("l"), runs_of("llr"), word_by([("l", 1), ("l", 1), ("r", 1), ("l", 0)]), exchanged("llr"), slope_of("rrl")]
[((1, 0), (1, 1)), (('l', 2), ('r', 1)), 'llr', 'rrl', (2, 5)]
>>> [simplest_in(((5, 2), (2, 1))), node_in(((5, 2), (2, 1))), simplest_in(((3, 1), (1, 1))), node_in(((3, 1), (1, 1))), node_in(((1, 0), (0, 1)))]
[(7, 3), 'llrr', (2, 1), 'lr', '']
>>> [cover_of(((3, 1), (1, 1))), cover_of(((5, 2), (2, 1))), cover_of(((1, 0), (2, 1)))]
[('llr', (2, 1), 'lr'), ('llrr',), ('ll',)]
>>> [crossings_of((1, 1)), crossings_of((3, 2)), crossings_of((5, 2)), straight((5, 2))]
['', 'sus', 'ssuss', 'ssusssu']
>>> [way_of("l"), way_of("llr"), way_of("lr")]
[('s', 'su'), ('ssus', 'ssu'), ('sus', 'su')]
'''

PICTURES = r'''
>>> from hownarrow.pictures import first_picture, led, outcome_at, outcome_of, picture_at, picture_of
>>> from hownarrow.wishes import both, everything, is_within, meets, wish_for
>>> pockets = (((0, 0, 0), "home"), ((0, 0, 1), "north"), ((0, 1, 0), "east"), ((0, 1, 1), "far"))
>>> one = (1, 1, (None,), (None,), (), pockets)
>>> first = first_picture(one, (0, 0, 0, 0))
>>> first
((1, 0, 3, 2), (2, 3, 0, 1), (('home', 0), ('east', 0), ('north', 0), ('far', 0)))
>>> led(first, "l")
((1, 0, 3, 2), (2, 3, 0, 1), (('home', 0), ('east', 0), ('far', 0), ('north', 0)))
>>> [outcome_of(first), outcome_of(led(first, "l")), outcome_at(one, (0, 0, 0, 0), (3, 5))]
[('falls', 'far', 0, 1), ('falls', 'north', 0, 1), ('falls', 'far', 0, 1)]
>>> picture_of(one, (0, 0, 0, 0), (2, 1)) == picture_at(one, (0, 0, 0, 0), "l")
True
>>> wish = wish_for([("falls", "far", 0, 1), ("round", 4)])
>>> [wish, everything(one), meets(wish, ("falls", "far", 0, 3)), meets(wish, ("falls", "north", 0, 1))]
[(('far',), (0,), 1, 4, True), (('', 'east', 'far', 'home', 'north'), (0,), 1, 4, True), True, False]
>>> [both(wish, (("far", "north"), (0, 1), 2, 9, False)), is_within(wish, everything(one)), is_within(everything(one), wish)]
[(('far',), (0,), 2, 4, False), True, False]
'''

GRAPHS = r'''
>>> from hownarrow.graphs import graph_of, row_at, way_back, word_to
>>> from hownarrow.papers import is_graph, is_paper, paper_for
>>> from hownarrow.pictures import outcome_of
>>> from hownarrow.settled import first_met, is_kept, outcomes_of, simplest_broken, simplest_met
>>> ell = (3, 1, (1, None, None), (2, None, None), (), (((0, 0, 0), "a"), ((1, 1, 0), "b"), ((2, 0, 1), "c")))
>>> spot = (0, 0, 0, 0)
>>> graph = graph_of(ell, spot)
>>> [len(graph), graph[0][1:], graph[4][1:], outcome_of(graph[4][0]), row_at(graph, "lr"), word_to(graph, 9), way_back(graph, 7)]
[18, (1, 2), (6, 9), ('falls', 'c', 0, 2), 4, 'lrr', 'l']
>>> outcomes_of(ell, spot)
{('falls', '', 0, 1): (1, 1), ('falls', 'a', 0, 2): (1, 2), ('falls', 'b', 0, 2): (1, 4), ('falls', 'c', 0, 2): (3, 2)}
>>> wish = (("", "a", "b", "c"), (0,), 1, 2, False)
>>> [is_kept(ell, spot, wish), simplest_broken(ell, spot, wish), simplest_broken(ell, spot, (("", "a", "c"), (0,), 1, 2, False))]
[True, None, (1, 4)]
>>> [simplest_met(ell, spot, (("c",), (0,), 1, 9, False)), first_met(ell, spot, (("c",), (0,), 1, 9, False), 4), paper_for(ell, spot, (("a",), (0,), 1, 9, True))]
[(3, 2), None, None]
>>> paper = paper_for(ell, spot, wish)
>>> [is_paper(ell, spot, wish, paper), is_paper(ell, spot, wish, paper[::-1]), is_paper(ell, spot, wish, paper[1:]), is_graph(ell, spot, graph), is_graph(ell, spot, graph[::-1])]
[True, True, False, True, False]
'''

NARROW = r'''
>>> from hownarrow.narrow import nearest_above, nearest_below, simplest_shot, simplest_shots, word_within
>>> from hownarrow.rounds import along, slope_along
>>> box = (1, 1, (None,), (None,), (), (((0, 0, 0), "home"), ((0, 0, 1), "left"), ((0, 1, 0), "low"), ((0, 1, 1), "far")))
>>> spot, left = (0, 0, 0, 0), (("left",), (0,), 1, 9, False)
>>> [simplest_shot(box, spot, left, ((1, 0), (0, 1))), simplest_shot(box, spot, left, ((3, 1), (2, 1))), simplest_shot(box, spot, (("home",), (0,), 1, 9, True), ((1, 0), (0, 1)))]
[(2, 1), (8, 3), None]
>>> simplest_shots(box, spot, ((3, 1), (2, 1)))
{('falls', 'far', 0, 1): (7, 3), ('falls', 'left', 0, 1): (8, 3), ('falls', 'low', 0, 1): (5, 2)}
>>> [word_within(box, spot, left, ((3, 1), (2, 1))), word_within(box, spot, left, ((1, 0), (0, 1))), word_within(box, spot, ((), (), 1, 1, True), ((1, 0), (0, 1)))]
['llrl', 'l', None]
>>> [nearest_below(box, spot, left, (1, 1), 10), nearest_above(box, spot, left, (1, 1), 10), nearest_above(box, spot, left, (1, 1), 4), nearest_below(box, spot, left, (0, 1), 7)]
[(4, 3), (4, 5), None, (2, 5)]
>>> [along(box, spot, "", "l"), slope_along("", "l", 5), slope_along("lr", "rl", 0)]
[(('falls', 'far', 0, 1), ('falls', 'left', 0, 1)), (6, 1), (3, 2)]
>>> [outcome[1] for outcome in along(box, spot, "", "lr")]
['far', 'low', 'left']
>>> pair = (2, 2, (1, None), (None, None), ((("right", 0), (1, 0)),), ())
>>> [along(pair, spot, "", "r"), along(pair, spot, "", "l"), simplest_shot(pair, spot, ((), (), 2, 2, True), ((1, 1), (0, 1)))]
[(('round', 4),), (('round', 4), ('round', 2)), (2, 3)]
'''

ALIKE = r'''
>>> from hownarrow.alike import are_alike, couples_of, parting_slope
>>> from hownarrow.graphs import graph_of
>>> from hownarrow.leastgraph import is_least, least_of, outcome_by, row_behind, rounds_by
>>> from hownarrow.remainders import is_told_by, level_of, marks_many, remainder_table
>>> four = (((0, 0, 0), "a"), ((0, 0, 1), "b"), ((0, 1, 0), "c"), ((0, 1, 1), "d"))
>>> plain, dial = (1, 1, (None,), (None,), (), four), (1, 2, (None,), (None,), ((("right", 0), (1, 0)),), four)
>>> spot = (0, 0, 0, 0)
>>> least = least_of(graph_of(plain, spot))
>>> least[:3]
((('falls', 'd', 0, 1), 1, 2), (('falls', 'b', 0, 1), 0, 3), (('falls', 'c', 0, 1), 4, 0))
>>> [len(least), rounds_by(least, "l"), row_behind(least, "lr"), outcome_by(least, (3, 2)), is_least(least)]
[6, [(0, 1), (2, 4), (3, 5)], 3, ('falls', 'c', 0, 1), True]
>>> [level_of(least), is_told_by(least, 2), marks_many(least, 2), is_told_by(least, 3), marks_many(least, 3)]
[2, True, 6, False, 144]
>>> remainder_table(least, 2)
{(0, 1): ('falls', 'b', 0, 1), (1, 0): ('falls', 'c', 0, 1), (1, 1): ('falls', 'd', 0, 1)}
>>> turning = least_of(graph_of(dial, spot))
>>> [len(turning), level_of(turning), is_told_by(turning, 4), is_told_by(turning, 2)]
[24, 4, True, False]
>>> [are_alike(plain, spot, dial, spot), parting_slope(plain, spot, dial, spot), are_alike(plain, spot, plain, spot), len(couples_of(plain, spot, dial, spot))]
[False, (1, 1), True, 24]
>>> bare, strip = (1, 1, (None,), (None,), (), ()), (1, 1, (0,), (None,), (), ())
>>> [least_of(graph_of(bare, spot)), least_of(graph_of(strip, spot)), parting_slope(bare, spot, strip, spot)]
[((('round', 2), 0, 0),), ((('round', 2), 0, 1), (('round', 1), 2, 0), (('round', 2), 1, 2)), (1, 2)]
'''

STRIPS = r'''
>>> from hownarrow.inner import gone, is_ball, meets_corners, met_corner, round_of, row_under, strip_at
>>> from hownarrow.strips import above, row_above, row_of, rows_of, strips_of
>>> bend = (3, 1, (1, None, None), (2, None, None), (), ())
>>> [above(bend, (0, 0, 0, 0), (1, 1)), above(bend, (0, 0, 0, 0), (2, 1)), row_of(bend, (2, 1, 0, 0), (1, 2))]
[(2, 1, 0, 0), (1, 1, 1, 0), ((0, 0, 1, 0), (2, 1, 0, 0))]
>>> rows_of(bend, (1, 2))[:2]
(((0, 0, 0, 0), (2, 1, 1, 0)), ((0, 0, 1, 0), (2, 1, 0, 0)))
>>> [row_above(bend, (1, 2), ((0, 0, 1, 0), (2, 1, 0, 0))), row_above(bend, (1, 2), ((0, 0, 0, 0), (2, 1, 1, 0)))]
[((0, 0, 0, 0), (2, 1, 1, 0)), None]
>>> [(many, len(rows), is_round) for many, rows, is_round in strips_of(bend, (1, 2))]
[(2, 2, False), (4, 2, False)]
>>> strips_of((1, 1, (None,), (None,), (), ()), (1, 1))
((2, (((0, 0, 0, 0), (0, 1, 1, 0)), ((0, 0, 1, 0), (0, 1, 0, 0))), True),)
>>> ball = ((0, 0, 0, 0), (1, 3), (1, 4))
>>> [is_ball(bend, ball), is_ball(bend, (ball[0], (1, 3), (2, 8))), meets_corners(ball, (1, 1)), meets_corners((ball[0], (1, 2), (1, 2)), (1, 1))]
[True, False, False, True]
>>> [gone(bend, ball, (1, 1)), gone(bend, ball, (1, 2))[0], row_under(bend, ball, (1, 2)), strip_at(bend, ball, (1, 2)), round_of(bend, ball, (1, 2)), round_of(bend, ball, (1, 1))]
[((1, 0, 1, 0), (1, 3), (1, 4)), (2, 1, 1, 0), ((0, 0, 1, 0), (2, 1, 0, 0)), 0, 2, 6]
>>> [met_corner(bend, ball, (1, 1)), met_corner(bend, (ball[0], (1, 2), (1, 2)), (1, 1))]
[None, ((1, 2), (1, 0, 1, 0))]
'''

COUNTS = r'''
>>> from hownarrow.counts import counts_by_depth, counts_to, shares
>>> from hownarrow.cushions import cushions_of, fewest
>>> box = (1, 1, (None,), (None,), (), (((0, 0, 0), "home"), ((0, 0, 1), "left"), ((0, 1, 0), "low"), ((0, 1, 1), "far")))
>>> pair = (2, 2, (1, None), (None, None), ((("right", 0), (1, 0)),), ())
>>> spot = (0, 0, 0, 0)
>>> counts_by_depth(box, spot, 2)[1:]
[{('falls', 'left', 0, 1): 1, ('falls', 'low', 0, 1): 1}, {('falls', 'far', 0, 1): 2, ('falls', 'left', 0, 1): 1, ('falls', 'low', 0, 1): 1}]
>>> [counts_by_depth(pair, spot, 3), shares(pair, spot)]
[[{('round', 4): 1}, {('round', 2): 1, ('round', 4): 1}, {('round', 2): 1, ('round', 4): 3}, {('round', 2): 3, ('round', 4): 5}], {('round', 2): (1, 3), ('round', 4): (2, 3)}]
>>> [sum(counts_by_depth(pair, spot, 200)[200].values()) == 2 ** 200, shares(box, spot)[("falls", "left", 0, 1)]]
[True, (1, 3)]
>>> [counts_to(box, spot, 4), counts_to(pair, spot, 5), counts_to(pair, spot, 1)]
[{('falls', 'far', 0, 1): 3, ('falls', 'left', 0, 1): 1, ('falls', 'low', 0, 1): 1}, {('round', 2): 3, ('round', 4): 6}, {}]
>>> [cushions_of(box, spot, (2, 1)), cushions_of(box, spot, (8, 3)), cushions_of(pair, spot, (2, 1)), cushions_of(pair, spot, (1, 2)), cushions_of(pair, spot, (2, 3))]
[1, 9, 0, 4, 4]
>>> [fewest(box, spot, (("left",), (0,), 1, 9, False), 20), fewest(pair, spot, ((), (), 2, 2, True), 8), fewest(pair, spot, ((), (), 3, 3, True), 8)]
[((2, 1), 1), ((2, 1), 0), None]
'''

GAMES = r'''
>>> from hownarrow.games import Game
>>> from hownarrow.strokes import are_values, best_stroke, gains_of, read_stroke, show_stroke, value_of
>>> dial = (1, 2, (None,), (None,), ((("right", 0), (1, 0)),), (((0, 0, 1), "low"), ((0, 1, 1), "far")))
>>> spots, worths = ((0, 0, 0), (0, 1, 0)), {"far": 3, "low": 1}
>>> game = Game(dial, spots, worths)
>>> [game.strike((0, 0, 0), (1, 1)), game.dial(), game.turn()]
[('falls', 'far', 1, 1), 1, 1]
>>> [game.strike((0, 1, 0), (1, 1)), game.strike((0, 0, 0), (2, 1)), game.scores(), game.dial()]
[('falls', 'low', 1, 1), ('falls', 'low', 0, 1), (4, 1), 0]
>>> game.struck(0)
>>> [game.outcomes(), game.scores(), game.undo(), game.scores()]
[(('falls', 'low', 0, 1), ('falls', 'low', 1, 1)), (1, 1), None, (4, 1)]
>>> gains_of(dial, spots, worths, 0)
{(0, 0): ((0, 0, 0), (1, 2)), (1, 0): ((0, 1, 0), (1, 1)), (1, 1): ((0, 0, 0), (2, 1)), (3, 0): ((0, 0, 0), (3, 1)), (3, 1): ((0, 0, 0), (1, 1))}
>>> [value_of(dial, spots, worths, 0, many) for many in range(4)]
[0, 3, 0, 3]
>>> [best_stroke(dial, spots, worths, 0, 1), show_stroke(((0, 1, 0), (3, 2))), read_stroke(dial, spots, "0 1 0 3 2")]
[((0, 0, 0), (1, 1)), '0 1 0 3 2', ((0, 1, 0), (3, 2))]
'''

DESK = r'''
>>> from hownarrow.desk import Desk
>>> from hownarrow.kept import Kept
>>> four = (((0, 0, 0), "a"), ((0, 0, 1), "b"), ((0, 1, 0), "c"), ((0, 1, 1), "d"))
>>> plain, dial = (1, 1, (None,), (None,), (), four), (1, 2, (None,), (None,), ((("right", 0), (1, 0)),), four)
>>> kept = Kept(plain, (0, 0, 0, 0))
>>> [kept.put_wish("never", (("b", "c", "d"), (0,), 1, 1, False)), kept.put_wish("far", (("d",), (0,), 1, 1, False)), kept.kept(), kept.broken()]
[True, True, {'far': False, 'never': True}, {'far': (1, 2)}]
>>> [kept.rows_many(), kept.put_table(dial), kept.rows_many(), kept.stayed(), kept.put_table(dial), kept.outcome((1, 1))]
[6, True, 24, 0, False, ('falls', 'd', 1, 1)]
>>> kept.undo()
>>> [kept.table() == plain, kept.stayed(), kept.put_spot((0, 1, 1, 0)), kept.stayed(), kept.outcome((1, 1))]
[True, 6, True, 0, ('falls', 'a', 0, 1)]
>>> desk = Desk()
>>> [desk.execute("shoot 3 2"), desk.execute("rows"), desk.execute("outcomes")]
[['round 2'], ['1'], ['round 2 by 1 1']]
>>> [desk.execute("table\ncells 1\nmarks 1\npocket 0 0 1 left\npocket 0 1 1 far"), desk.execute("shoot 2 1"), desk.execute("shoot 1 2")]
[['done'], ['falls left 0 1'], ['round 2']]
>>> [desk.execute("outcomes"), desk.execute("wish in far,left 0 1 1 no"), desk.execute("wishes"), desk.execute("narrow in 3 1 2 1")]
[['falls far 0 1 by 1 1', 'falls left 0 1 by 2 1', 'round 2 by 1 2'], ['done'], ['in broken by 1 2'], ['7 3']]
>>> [desk.execute("spot 0 0 1 0"), desk.execute("where"), desk.execute("shoot 1 1"), desk.execute("undo"), desk.execute("where"), desk.execute("show")]
[['done'], ['0 0 1 0'], ['falls left 0 2'], ['done'], ['0 0 0 0'], ['cells 1', 'marks 1', 'pocket 0 0 1 left', 'pocket 0 1 1 far']]
'''


class TestExamples(unittest.TestCase):
    def check(self, text, many):
        test = doctest.DocTestParser().get_doctest(text, {}, "DOC.md", None, 0)
        self.assertEqual(len(test.examples), many)
        told = []
        failed, tried = doctest.DocTestRunner().run(test, out=told.append)
        self.assertEqual((failed, tried), (0, many), "".join(told))

    def test_forms_and_slopes(self):
        self.check(FORMS_AND_SLOPES, 12)

    def test_tables(self):
        self.check(TABLES, 19)

    def test_balls(self):
        self.check(BALLS, 13)

    def test_points_and_squares(self):
        self.check(POINTS_AND_SQUARES, 10)

    def test_words_ranges_and_crossings(self):
        self.check(WORDS, 9)

    def test_pictures_and_wishes(self):
        self.check(PICTURES, 12)

    def test_graphs_papers_and_settled(self):
        self.check(GRAPHS, 14)

    def test_narrow_and_rounds(self):
        self.check(NARROW, 12)

    def test_alike_leastgraph_and_remainders(self):
        self.check(ALIKE, 17)

    def test_strips_and_inner(self):
        self.check(STRIPS, 12)

    def test_counts_and_cushions(self):
        self.check(COUNTS, 11)

    def test_games_and_strokes(self):
        self.check(GAMES, 12)

    def test_kept_and_desk(self):
        self.check(DESK, 14)

    def test_readme(self):
        with open(README, encoding="utf-8") as file:
            text = file.read()
        self.check("".join(re.findall(r"```\n(>>> .*?)```", text, re.DOTALL)), 25)


if __name__ == "__main__":
    unittest.main()
