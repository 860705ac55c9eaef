"""The document's own examples, word for word, each under the number of its point."""

import unittest

from keptopen.errors import KeepError

# The values that the examples use.
VALUES = r"""
    >>> SAME = ((0, 0), (1, 1))
    >>> PAIR = (('a', 'b'), (2, 2), ((('a',), ((0,),)), (('a', 'b'), SAME), (('b',), ((1,),))))
    >>> RING = (('a', 'b', 'c'), (('a', 'b'), ('a', 'c'), ('b', 'c')))
"""

# Each point may use what those ahead of it name.
POINTS = (
    (
        11,
        r"""
    >>> from keptopen.kinds import is_chests, is_integer, is_name, is_number
    >>> [is_integer(-3), is_number(True), is_name('abcdefghi'), is_chests(('a', 'b')), is_chests(('b', 'a')), is_chests(())]
    [True, False, False, True, False, False]
""",
    ),
    (
        12,
        r"""
    >>> from keptopen.hallchecker import lets_hall
    >>> LINE = (('a', 'b', 'c'), (2, 3, 1), ((('a', 'b', 'c'), ((0, 2, 0), (1, 0, 0))), (('b',), ()), (('b',), ((0,), (2,)))))
    >>> [lets_hall(PAIR), lets_hall(LINE), lets_hall((('a',), (10 ** 40,), ()))]
    [3, 3, 0]
    >>> lets_hall((('a', 'b'), (2, 0), ()))
    raises InvalidPaper(word='size', at=1)
    >>> lets_hall((('a', 'b'), (2, 2), ((('a', 'b'), ((0, 0), (0, 2))),)))
    raises InvalidPaper(word='row', at=(0, 1))
""",
    ),
    (
        13,
        r"""
    >>> from keptopen.hallparts import gates_of, seals_of, size_of
    >>> [size_of(LINE, 'b'), seals_of(LINE, 'b'), seals_of(PAIR, 'a'), gates_of(LINE), gates_of(PAIR)]
    [3, (0, 1, 2), (0, 1), (('a', 'b'), ('a', 'c'), ('b', 'c')), (('a', 'b'),)]
    >>> size_of(PAIR, 'c')
    raises NotUsable(word='chest', at='c')
""",
    ),
    (
        15,
        r"""
    >>> from keptopen.hallchanges import renamed, with_seal, without_seal
    >>> [with_seal(PAIR, (('a', 'b'), ()))[2][3], without_seal(PAIR, 0)[2][0], without_seal(with_seal(LINE, (('c',), ((0,),))), 3) == LINE]
    [(('a', 'b'), ()), (('a', 'b'), ((0, 0), (1, 1))), True]
    >>> renamed(LINE, ('a', 'z'))
    (('b', 'c', 'z'), (3, 1, 2), ((('b', 'c', 'z'), ((0, 0, 1), (2, 0, 0))), (('b',), ()), (('b',), ((0,), (2,)))))
    >>> renamed(renamed(PAIR, ('a', 'b'), ('b', 'a')), ('a', 'b'), ('b', 'a')) == PAIR
    True
    >>> with_seal(PAIR, (('a', 'c'), ()))
    raises NotUsable(word='seal', at=-1)
    >>> without_seal(PAIR, True)
    raises NotUsable(word='index', at=True)
    >>> renamed(PAIR, ('a', 'b'))
    raises NotUsable(word='pairs', at=-1)
""",
    ),
    (
        18,
        r"""
    >>> from keptopen.hallreadings import chests_read, hall_read
    >>> from keptopen.halltexts import chests_words, hall_text
    >>> [hall_text(PAIR), chests_words(('a', 'b')), chests_words(()), hall_read(hall_text(LINE)) == LINE, chests_read('a b'), chests_read('-')]
    ['chest a 2\nchest b 2\nseal a 0\nseal a,b 0,0 1,1\nseal b 1', 'a b', '-', True, ('a', 'b'), ()]
    >>> hall_read('chest a 2\nseal a\nchest b 2')
    raises InvalidText(line=2, field=0)
    >>> hall_read('chest a 2\nseal a 1 0')
    raises InvalidText(line=1, field=3)
    >>> hall_read('chest a')
    raises InvalidText(line=0, field=2)
    >>> chests_read('b a')
    raises InvalidText(line=0, field=1)
""",
    ),
    (
        19,
        r"""
    >>> from keptopen.halls import Hall
    >>> one = Hall(('a', 'b'), (2, 2), (('a', 'b'), ((0, 0), (1, 1))))
    >>> [one[0], one('a'), 'a' in one, ('a', 'b') in one, len(one), list(one), str(one - 0)]
    [(('a', 'b'), ((0, 0), (1, 1))), (0,), True, False, 1, [(('a', 'b'), ((0, 0), (1, 1)))], 'chest a 2\nchest b 2']
    >>> far = Hall(('b', 'c'), (2, 1), (('c',), ()))
    >>> [(one | far).hall_now, one | far == far | one, one + (('b',), ((1,),)) == one, one == Hall.of(one.hall_now)]
    [(('a', 'b', 'c'), (2, 2, 1), ((('a', 'b'), ((0, 0), (1, 1))), (('c',), ()))), False, False, True]
    >>> [one.called(('a', 'c')).seals_now, Hall.read('chest a 3').size('a'), (one | far).gates(), one.sizes_now]
    [((('b', 'c'), ((0, 0), (1, 1))),), 3, (('a', 'b'),), (2, 2)]
    >>> one | Hall(('b',), (3,))
    raises NotUsable(word='other', at=-1)
    >>> Hall(('a', 'b'), (2, 2), (('a',), ()), (('b', 'a'), ()))
    raises NotUsable(word='seals', at=1)
""",
    ),
    (
        21,
        r"""
    >>> ROW = (('a', 'b', 'c'), (2, 2, 3), ((('a', 'b'), SAME), (('b', 'c'), ((0, 0), (0, 1), (1, 2)))))
""",
    ),
    (
        22,
        r"""
    >>> from keptopen.fillingchecker import lets_filling
    >>> [lets_filling(ROW, ()), lets_filling(ROW, (('a', 1), ('c', 2))), lets_filling(PAIR, (('a', 0), ('b', 1)))]
    [0, 2, 2]
    >>> lets_filling(ROW, (('a', 1), ('c', 3)))
    raises InvalidPaper(word='thing', at=1)
    >>> lets_filling(ROW, (('c', 0), ('a', 5)))
    raises InvalidPaper(word='order', at=1)
""",
    ),
    (
        23,
        r"""
    >>> from keptopen.fillings import broken_by, fitting, is_sound, parts_of
    >>> [broken_by(PAIR, (('a', 0), ('b', 1))), broken_by(PAIR, (('a', 1), ('b', 0))), broken_by(PAIR, (('b', 0),)), broken_by(PAIR, ())]
    [(1,), (0, 1, 2), (2,), ()]
    >>> [is_sound(ROW, (('a', 0), ('c', 2))), is_sound(ROW, (('b', 0), ('c', 2))), fitting(ROW, (('b', 0),), 'c'), fitting(ROW, (('b', 1),), 'a')]
    [True, False, (0, 1), (1,)]
    >>> [fitting(PAIR, (('a', 0),), 'b'), fitting(ROW, (('b', 0), ('c', 2)), 'a'), fitting(ROW, (), 'c')]
    [(), (), (0, 1, 2)]
    >>> parts_of(ROW, (('a', 0), ('c', 2)))
    ((), (('a', 0),), (('a', 0), ('c', 2)), (('c', 2),))
    >>> fitting(ROW, (('b', 0),), 'b')
    raises NotUsable(word='chest', at='b')
""",
    ),
    (
        25,
        r"""
    >>> from keptopen.wholes import held_things, many_wholes, some_whole, sure_things, whole_fillings
    >>> HALF = ROW[:2] + (ROW[2] + ((('a',), ((0,),)),),)
    >>> whole_fillings(HALF)
    ((('a', 0), ('b', 0), ('c', 0)), (('a', 0), ('b', 0), ('c', 1)))
    >>> [many_wholes(ROW), many_wholes(PAIR), whole_fillings(PAIR), some_whole(PAIR), sure_things(PAIR)]
    [3, 0, (), None, None]
    >>> [held_things(ROW, 'c'), held_things(HALF, 'c'), held_things(PAIR, 'a'), sure_things(ROW), sure_things(HALF)]
    [(0, 1, 2), (0, 1), (), (), (('a', 0), ('b', 0))]
""",
    ),
    (
        27,
        r"""
    >>> from keptopen.handfuls import Handful, Shut
    >>> one, far = Handful(ROW, (('a', 0), ('c', 2))), Handful.of(ROW, ('c', 2), ('b', 1))
    >>> [one['c'], one('b'), one.lacking_now, (('c', 2),) in one, (('c', 0),) in one, len(one), list(one)[0], Shut(ROW) == Handful(ROW, ())]
    [2, (), ('b',), True, False, 2, ('a', 0), True]
    >>> [(one + far).broken_now, (one & far).filling_now, (one - far).filling_now, one.given('a', 1).filling_now, list(one.given('a', 1).ways())]
    [(0,), (('c', 2),), (('a', 0),), (('a', 1), ('c', 2)), [(('a', 1), ('b', 1), ('c', 2))]]
    >>> [one.without('c').filling_now, far.cut_to(('a', 'b')).filling_now, list(one.ways()), far.chests_now]
    [(('a', 0),), (('b', 1),), [], ('b', 'c')]
    >>> one + Handful(ROW, (('a', 1),))
    raises NotUsable(word='other', at=-1)
    >>> one['b']
    raises NotUsable(word='chest', at='b')
    >>> Handful.of(ROW, ('b', 0), ('c', 1), ('b', 0))
    raises NotUsable(word='pairs', at=2)
""",
    ),
    (
        30,
        r"""
    >>> from keptopen.plays import grasp, moves
    >>> ODD = (('a', 'b', 'c'), (2, 2, 2), ((('a', 'b'), SAME), (('a', 'c'), ((0, 1), (1, 0))), (('b', 'c'), SAME)))
    >>> LONG = (tuple('abcdef'), (2,) * 6, ((('a',), ((0,),)),) + tuple([(two, SAME) for two in zip('abcde', 'bcdef')]) + ((('f',), ((1,),)),))
    >>> [moves(PAIR, 1), moves(PAIR, 2), moves(PAIR, 3), grasp(PAIR), grasp((('a',), (1,), ()))]
    [None, 2, 2, 2, None]
    >>> [moves(ODD, 2), moves(ODD, 3), grasp(ODD), moves(LONG, 2), moves(LONG, 3)]
    [None, 3, 3, 4, 3]
    >>> moves(PAIR, 0)
    raises NotUsable(word='m', at=0)
""",
    ),
    (
        32,
        r"""
    >>> from keptopen.families import family, is_family
    >>> from keptopen.familyparts import cut_family, whole_family
    >>> [family(PAIR, 1), family(PAIR, 2), len(family(ODD, 2)), len(family(LONG, 1))]
    [((), (('a', 0),), (('b', 1),)), None, 13, 11]
    >>> [is_family(PAIR, 1, ((), (('a', 0),))), is_family(ODD, 2, family(ODD, 2)), len(cut_family(ODD, 2, family(ODD, 2), 1))]
    [False, True, 7]
    >>> whole_family((('a', 'b'), (2, 2), ((('a', 'b'), SAME),)), 1, (('a', 1), ('b', 1)))
    ((), (('a', 1),), (('b', 1),))
    >>> cut_family(PAIR, 1, ((),), 1)
    raises NotUsable(word='family', at=-1)
""",
    ),
    (
        35,
        r"""
    >>> from keptopen.playchecker import lets_play
    >>> from keptopen.playpapers import play_paper
    >>> CAUGHT = ('caught', (((('a', 0),), 'b', (None, None)), ((), 'a', (0, None))))
    >>> [lets_play(PAIR, 2, CAUGHT), lets_play(PAIR, 1, ('kept', family(PAIR, 1))), lets_play(LONG, 2, play_paper(LONG, 2)) >= 4, play_paper(ODD, 2)[0]]
    [2, None, True, 'kept']
    >>> lets_play(PAIR, 2, ('caught', (((), 'a', (None, None)),)))
    raises InvalidPaper(word='sound', at=(0, 0))
    >>> lets_play(PAIR, 1, CAUGHT)
    raises InvalidPaper(word='many', at=0)
    >>> lets_play(PAIR, 1, ('kept', ((), (('a', 0),))))
    raises InvalidPaper(word='next', at=(0, 'b'))
""",
    ),
    (
        37,
        r"""
    >>> from keptopen.keepers import Keeper
    >>> one, two = Keeper(ODD, 2), Keeper(LONG, 2)
    >>> [len(one), one.moves_now, one.things_for((('a', 0),), 'b'), (('a', 0), ('c', 1)) in one, one.next_look(())]
    [13, None, (0,), True, None]
    >>> [two.family_now, two.moves_now, two.things_for((), 'a'), two.moves_from((('b', 1),)), two.next_look((('b', 1),))]
    [(), 4, (), 1, (None, 'a')]
    >>> [two.moves_from((('b', 0), ('d', 1))), two.next_look((('b', 0), ('d', 1))), two.with_m(3).moves_from((('b', 0), ('d', 1)))]
    [3, ('b', 'c'), 1]
    >>> (one + (('a',), ((0,),))).moves_now
    3
    >>> one.things_for((('a', 0),), 'a')
    raises NotUsable(word='chest', at='a')
""",
    ),
    (
        40,
        r"""
    >>> from keptopen.asktrees import ask_tree, lean_tree, least_depth, least_leaves
    >>> UNLIKE = ((0, 1), (1, 0))
    >>> TRIO = (('a', 'b', 'c'), (2, 2, 2), ((('a', 'b'), UNLIKE), (('a', 'c'), UNLIKE), (('b', 'c'), UNLIKE)))
    >>> TIED = (('a', 'b', 'c'), (2, 2, 2), ((('a',), ((0,),)), (('a', 'b'), SAME), (('b', 'c'), SAME), (('c',), ((1,),))))
    >>> [(least_depth(hall), least_leaves(hall)) for hall in (PAIR, TRIO, TIED, (('a',), (3,), ((('a',), ()),)))]
    [(2, 3), (3, 6), (2, 4), (1, 3)]
    >>> [ask_tree(TIED)[0], least_depth((('a',), (2,), ())), ask_tree((('a',), (2,), ())), lean_tree((('a',), (1,), ((('a',), ()),)))]
    ['b', None, None, ('a', (('broken', 0),))]
""",
    ),
    (
        41,
        r"""
    >>> from keptopen.askchecker import lets_tree
    >>> LEAVES = (('broken', 2), ('broken', 1))
    >>> [lets_tree(PAIR, ('a', (('b', LEAVES), ('broken', 0)))), lets_tree(PAIR, ('b', (('broken', 2), ('a', (('broken', 1), ('broken', 0))))))]
    [(2, 3), (2, 3)]
    >>> lets_tree(PAIR, ('a', (('b', LEAVES), ('broken', 1))))
    raises InvalidPaper(word='sound', at=(1,))
    >>> lets_tree(PAIR, ('a', (('a', LEAVES), ('broken', 0))))
    raises InvalidPaper(word='chest', at=(0,))
    >>> lets_tree(PAIR, ('a', (('b', LEAVES[:1]), ('broken', 0))))
    raises InvalidPaper(word='subtrees', at=(0,))
""",
    ),
    (
        44,
        r"""
    >>> from keptopen.askchanges import order_tree, pruned_tree
    >>> from keptopen.askways import leaf_for, leaves_of
    >>> ABC, BAC = order_tree(TIED, ('a', 'b', 'c')), order_tree(TIED, ('b', 'a', 'c'))
    >>> [lets_tree(TIED, ABC), lets_tree(TIED, BAC), BAC[1][1]]
    [(3, 4), (3, 5), ('a', (('broken', 1), ('broken', 0)))]
    >>> leaves_of(TIED, ABC)
    (((('a', 0), ('b', 0), ('c', 0)), 3), ((('a', 0), ('b', 0), ('c', 1)), 2), ((('a', 0), ('b', 1)), 1), ((('a', 1),), 0))
    >>> [leaf_for(TIED, ABC, (('a', 0), ('b', 1), ('c', 1))), pruned_tree(PAIR, ('a', (('b', LEAVES), ('b', (('broken', 2), ('broken', 0))))))]
    [((('a', 0), ('b', 1)), 1), ('a', (('b', (('broken', 2), ('broken', 1))), ('broken', 0)))]
    >>> leaf_for(TIED, ABC, (('a', 0), ('b', 1)))
    raises NotUsable(word='filling', at=-1)
""",
    ),
    (
        45,
        r"""
    >>> from keptopen.askrows import rows_of_tree, tree_of_rows
    >>> rows_of_tree(PAIR, ('a', (('b', LEAVES), ('broken', 0))))
    (((('a', 0),), 'b', (None, None)), ((), 'a', (0, None)))
    >>> AGAIN = (((('b', 0),), 'c', (None, None)), ((('b', 1),), 'a', (None, None)), ((('a', 0),), 'b', (0, None)), ((), 'b', (0, 1)))
    >>> [lets_tree(TIED, tree_of_rows(TIED, AGAIN)), lets_tree(PAIR, tree_of_rows(PAIR, rows_of_tree(PAIR, ask_tree(PAIR))))[0]]
    [(2, 4), 2]
    >>> tree_of_rows(TIED, AGAIN[:3])
    raises NotUsable(word='rows', at=-1)
""",
    ),
    (
        46,
        r"""
    >>> from keptopen.quests import Quest
    >>> one = Quest(PAIR, ('a', (('b', LEAVES), ('broken', 0))))
    >>> [one.depth_now, one.leaves_now, len(one), list(one)[2], (('a', 1),) in one, one[(0, 1)], one[()] == one.tree_now]
    [2, 3, 3, ((('a', 1),), 0), True, ('broken', 1), True]
    >>> [one((('a', 1), ('b', 0))), one == one.pruned(), len(one.listed()), Quest.ordered(PAIR, ('a', 'b')) == one, Quest.lean((('a',), (1,), ()))]
    [((('a', 1),), 0), True, 2, True, None]
""",
    ),
    (
        49,
        r"""
    >>> from keptopen.webchecker import lets_web
    >>> from keptopen.webparts import neighbors, parts_without, web_of
    >>> WAY = (('a', 'b', 'c'), (('a', 'b'), ('b', 'c')))
    >>> [lets_web(RING), neighbors(WAY, 'b'), parts_without(WAY, ('b',)), parts_without(RING, ()), web_of(PAIR)]
    [3, ('a', 'c'), (('a',), ('c',)), (('a', 'b', 'c'),), (('a', 'b'), (('a', 'b'),))]
    >>> lets_web((('a', 'b'), (('b', 'a'),)))
    raises InvalidPaper(word='gate', at=0)
""",
    ),
    (
        51,
        r"""
    >>> from keptopen.bagchecker import lets_bags
    >>> from keptopen.bags import size_of_web, tree_of_bags
    >>> [lets_bags(WAY, ((('a', 'b'), ('b', 'c')), ((0, 1),))), size_of_web(WAY), size_of_web(RING), lets_bags(RING, tree_of_bags(RING))]
    [2, 2, 3, 3]
    >>> lets_bags(RING, ((('a', 'b'), ('b', 'c')), ((0, 1),)))
    raises InvalidPaper(word='gate', at=1)
    >>> lets_bags(WAY, ((('a', 'b'), ('c',), ('b', 'c')), ((0, 1), (1, 2))))
    raises InvalidPaper(word='apart', at='b')
""",
    ),
    (
        54,
        r"""
    >>> from keptopen.thickets import thicket
    >>> from keptopen.webpaperchecker import lets_size, lets_thicket
    >>> from keptopen.webpapers import web_paper
    >>> LOTS = (('a',), ('b',), ('c',))
    >>> [lets_thicket(RING, 2, LOTS), lets_size(RING, 2, ('thicket', LOTS)), thicket(RING, 3), lets_size(WAY, 2, web_paper(WAY, 2)), web_paper(WAY, 1)[0]]
    [3, False, None, True, 'thicket']
    >>> lets_thicket(RING, 3, LOTS)
    raises InvalidPaper(word='met', at=-1)
    >>> lets_thicket(WAY, 1, (('a',), ('c',)))
    raises InvalidPaper(word='touch', at=(0, 1))
    >>> lets_size(RING, 2, ('bags', (('a', 'b', 'c'),), ()))
    raises InvalidPaper(word='size', at=0)
""",
    ),
    (
        55,
        r"""
    >>> from keptopen.webs import Web
    >>> one = Web.of(WAY)
    >>> [len(one), list(one), one['b'], one(('b',)), ('a', 'b') in one, ('b', 'a') in one, one.least_size()]
    [3, ['a', 'b', 'c'], ('a', 'c'), (('a',), ('c',)), True, False, 2]
    >>> [(one + ('a', 'c')) == Web.of(RING), (one - ('a', 'b')).web_now, one.without('b').web_now, one.joined(('b', 'c')).web_now]
    [True, (('a', 'b', 'c'), (('b', 'c'),)), (('a', 'c'), ()), (('a', 'b'), (('a', 'b'),))]
    >>> (one | Web(('c', 'd'), ('c', 'd'))).web_now
    (('a', 'b', 'c', 'd'), (('a', 'b'), ('b', 'c'), ('c', 'd')))
    >>> one - ('a', 'c')
    raises NotUsable(word='gate', at=-1)
""",
    ),
    (
        58,
        r"""
    >>> from keptopen.bybags import counts_at, dead_at, many_by, some_by
    >>> CHESTS, SIZES = ('a', 'b', 'c', 'd'), (2, 2, 2, 2)
    >>> ALIKE = ((('a',), ((0,),)), (('a', 'b'), SAME), (('b', 'c'), SAME), (('c', 'd'), SAME))
    >>> FREE, ENDS = (CHESTS, SIZES, ALIKE), (CHESTS, SIZES, ALIKE + ((('d',), ((1,),)),))
    >>> TWOS = ((('a', 'b'), ('b', 'c'), ('c', 'd')), ((0, 1), (1, 2)))
    >>> [many_by(FREE, TWOS), some_by(FREE, TWOS), many_by(ENDS, TWOS), some_by(ENDS, TWOS)]
    [1, (('a', 0), ('b', 0), ('c', 0), ('d', 0)), 0, None]
    >>> [counts_at(ENDS, TWOS, 0, 1), dead_at(ENDS, TWOS, 0, 1), dead_at(ENDS, TWOS, 2, 1), dead_at(ENDS, TWOS, 0, 2)]
    [(((('b', 0), ('c', 0)), 0), ((('b', 1), ('c', 1)), 1)), ((('b', 0), ('c', 0)),), ((('b', 1), ('c', 1)),), ()]
    >>> many_by(ENDS, ((('a', 'b'), ('c', 'd')), ((0, 1),)))
    raises NotUsable(word='bags', at=-1)
""",
    ),
    (
        59,
        r"""
    >>> from keptopen.deadchecker import lets_dead
    >>> from keptopen.deadpapers import dead_paper
    >>> ZEROS = (((('a', 0), ('b', 0)),), ((('b', 0), ('c', 0)),), ())
    >>> [dead_paper(ENDS, TWOS, 0), lets_dead(ENDS, TWOS, 0, ZEROS), lets_dead(ENDS, TWOS, 2, dead_paper(ENDS, TWOS, 2))]
    [(((('a', 0), ('b', 0)),), ((('b', 0), ('c', 0)),), ()), 2, 2]
    >>> lets_dead(FREE, TWOS, 0, ZEROS)
    raises InvalidPaper(word='next', at=(1, 0))
    >>> dead_paper(FREE, TWOS, 0)
    raises NotUsable(word='hall', at=-1)
""",
    ),
    (
        62,
        r"""
    >>> from keptopen.families import family
    >>> from keptopen.gluing import kept_by, moves_by
    >>> from keptopen.walkers import Walker
    >>> [kept_by(FREE, TWOS, family(FREE, 2)), moves_by(ENDS, TWOS, 0), moves_by(FREE, TWOS, 1)]
    [(('a', 0), ('b', 0), ('c', 0), ('d', 0)), 4, 3]
    >>> walker = Walker(ENDS, TWOS, 1)
    >>> [walker.wanted(), walker.look(0), walker.wanted(), walker.look(0), walker.wanted(), walker.bag_now]
    [((), 'b'), 'going', ((), 'c'), 'going', (('b',), 'd'), 1]
    >>> [walker.look(0), walker.filling_now, walker.bag_now, walker.wanted(), len(walker)]
    ['caught', (('c', 0), ('d', 0)), 2, None, 3]
    >>> [walker.undo(), walker.filling_now, walker.looks_now, walker.state()]
    [('d', 0), (('b', 0), ('c', 0)), (('b', 0), ('c', 0)), 'going']
    >>> walker.look(2)
    raises NotUsable(word='thing', at=2)
    >>> kept_by(ENDS, TWOS, family(ENDS, 1))
    raises NotUsable(word='family', at=-1)
""",
    ),
    (
        64,
        r"""
    >>> WAY = (('a', 'b', 'c'), (('a', 'b'), ('b', 'c')))
""",
    ),
    (
        65,
        r"""
    >>> from keptopen.switched import setting_of, switched_hall, thing_of
    >>> switched_hall(RING, ('a',))
    (('a', 'b', 'c'), (2, 2, 2), ((('a', 'b'), ((0, 0), (1, 1))), (('a', 'c'), ((0, 1), (1, 0))), (('b', 'c'), ((0, 0), (1, 1)))))
    >>> [setting_of(RING, ('a',), 'a', 0), thing_of(RING, (), 'a', (1, 1)), switched_hall(WAY, ('a',))[1], switched_hall((('z',), ()), ('z',))]
    [(0, 1), 1, (1, 2, 1), (('z',), (1,), ((('z',), ()),))]
    >>> thing_of(RING, (), 'a', (0, 1))
    raises NotUsable(word='bits', at=-1)
""",
    ),
    (
        66,
        r"""
    >>> from keptopen.oddparts import least_switched, odd_parts
    >>> TWO = (('a', 'b', 'c', 'y', 'z'), (('a', 'b'), ('a', 'c'), ('b', 'c'), ('y', 'z')))
    >>> [odd_parts(TWO, ('a', 'b', 'z')), odd_parts(TWO, ('a', 'y')), least_switched(TWO, ('a', 'y')), least_switched(TWO, ('a',)), least_switched(RING, ('a', 'b'))]
    [(('y', 'z'),), (('a', 'b', 'c'), ('y', 'z')), 2, 3, None]
""",
    ),
    (
        68,
        r"""
    >>> from keptopen.settings import bits_by, filling_by, many_settings, odds_of, some_settings, turned_along
    >>> [odds_of(RING, (1, 0, 0)), turned_along(RING, (1, 0, 0), ('a', 'c', 'b')), turned_along(RING, (1, 0, 0), ('b', 'c', 'b')), many_settings(RING, ('a', 'b')), some_settings(RING, ('a',))]
    [('a', 'b'), (1, 1, 1), (1, 0, 0), 2, None]
    >>> [some_settings(WAY, ('a', 'c')), filling_by(WAY, (1, 1)), bits_by(WAY, ('a', 'c'), (('b', 1),)), bits_by(RING, ('a',), (('a', 0),))]
    [(1, 1), (('a', 0), ('b', 1), ('c', 0)), (1, 1), (0, 1, None)]
""",
    ),
    (
        70,
        r"""
    >>> from keptopen.settingchecker import lets_settings
    >>> [lets_settings(RING, ('a', 'b'), ('set', (1, 0, 0))), lets_settings(RING, ('a',), ('sum', ('a', 'b', 'c')))]
    [True, False]
    >>> lets_settings(RING, ('a', 'b'), ('set', (1, 1, 0)))
    raises InvalidPaper(word='chest', at='a')
    >>> lets_settings(RING, ('a', 'b'), ('sum', ('a', 'b', 'c')))
    raises InvalidPaper(word='even', at=-1)
""",
    ),
    (
        71,
        r"""
    >>> from keptopen.hiding import hide, switched_family
    >>> ALONE = (('a',), ('b',), ('c',))
    >>> [hide(RING, ALONE, ('a',)), hide(RING, ALONE, ()), len(switched_family(RING, 'a', 2, ALONE)), switched_family(RING, 'a', 1, ALONE)]
    [('b', 'c'), ('a', 'b', 'c'), 13, ((), (('a', 0),), (('a', 1),), (('b', 0),), (('b', 1),), (('c', 0),), (('c', 1),))]
    >>> [switched_family(WAY, 'a', 1, (('a',), ('b',))), switched_family(WAY, 'a', 1, (('b',), ('c',)))]
    [((), (('a', 0),), (('b', 0),), (('c', 0),)), ((), (('a', 0),), (('b', 1),), (('c', 0),))]
    >>> hide(WAY, (('b',), ('c',)), ('b', 'c'))
    raises NotUsable(word='lot', at=-1)
""",
    ),
    (
        72,
        r"""
    >>> from keptopen.switches import Switches
    >>> one = Switches(RING, ('a',))
    >>> [one['a'], one((1, 0, 0)), 'a' in one, list(one + 'b'), one.moved(('a', 'c')).odds_now, one.moved(('a', 'b', 'a')) == one, one.least_m(), (one + 'a').many_bits()]
    [((0, 1), (1, 0)), ('b',), True, ['a', 'b'], ('c',), True, 3, 2]
    >>> [one.solved(), one.judged(one.paper()), len(one.kept_for(1, ALONE))]
    [None, False, 7]
    >>> (one + 'b').kept_for(1, ALONE)
    raises NotUsable(word='odds', at=-1)
""",
    ),
    (
        78,
        r"""
    >>> from keptopen.games import Game
    >>> CHAIN = (('a', 'b', 'c', 'd'), (2,) * 4, ((('a',), ((0,),)), (('a', 'b'), SAME), (('b', 'c'), SAME), (('c', 'd'), SAME), (('d',), ((1,),))))
    >>> game = Game(CHAIN, 2)
    >>> [game.left_now, game.look('b', 0), game.left_now, game.advice(), game.things_now('c'), game.look('c', 0), game.left_now, game.advice()]
    [3, 'going', 2, (None, 'c'), (), 'going', 1, ('b', 'd')]
    >>> [game.barred(('look', 'd', 1)), game.shut('b'), game.look('d', 1), game.filling_now, game.broken_now, game.left_now, game.advice(), game.moves_now]
    ['many', 'going', 'caught', (('c', 0), ('d', 1)), (3,), 0, None, 3]
    >>> one = Game(PAIR, 1)
    >>> [one.left_now, one.advice(), one.things_now('a'), one.things_now('b'), one.tried(('look', 'a', 1))]
    [None, None, (0,), (1,), ((('a', 1),), 0, 'caught')]
""",
    ),
    (
        80,
        r"""
    >>> [game.undo(), game.state(), len(game), ('shut', 'b') in game, game.tally(), game.log()[2:], game == Game(CHAIN, 2)]
    [('look', 'd', 1), 'going', 3, True, (5, 5), (('look', 'c', 0), ('shut', 'b')), False]
    >>> game.look('d', 2)
    raises InvalidEvent(event=('look', 'd', 2), reason='thing')
""",
    ),
    (
        82,
        r"""
    >>> from keptopen.guarded import Sure
    >>> sure = Sure(PAIR, 1)
    >>> [sure.look('a', 0), sure.shut('a'), sure.barred(('look', 'b', 0)), sure.look('b', 1), sure.left_now]
    ['going', 'going', 'lost', 'going', None]
    >>> Sure(PAIR, 1).look('a', 1)
    raises Barred(event=('look', 'a', 1), things=(0,))
    >>> Sure(PAIR, 2)
    raises NotUsable(word='m', at=2)
""",
    ),
    (
        87,
        r"""
    >>> from keptopen.eventreadings import read_event, read_log
    >>> from keptopen.eventtexts import event_line, log_lines
    >>> from keptopen.replaying import replayed
    >>> [event_line(('look', 'a', 0)), read_event('shut b'), log_lines(game.log())[-3:], read_log(log_lines(sure.log())) == sure.log(), replayed(game.log()) == game]
    ['look a 0', ('shut', 'b'), ['look b 0', 'look c 0', 'shut b'], True, True]
    >>> read_event('look a')
    raises InvalidText(line=0, field=2)
""",
    ),
    (
        89,
        r"""
    >>> from keptopen.desk import Desk
    >>> desk = Desk()
    >>> rows = ('\n'.join(log_lines((('game', CHAIN, 2),))), 'look b 0', 'advice', 'things c', 'look c 0', 'advice', 'filling', 'bars look d 0', 'left', 'undo')
    >>> [[desk.say(row) for row in rows], desk.counts()]
    [['ok', 'going', '- c', '-', 'going', 'b d', 'b:0 c:0', 'many', '1', 'look c 0'], (10, 10)]
""",
    ),
)


def told(text):
    """The pairs of the statements of a text, and the line that each gives, None if it gives none."""
    lines = text.strip("\n").split("\n")
    found = []
    for line in lines:
        if line.startswith("    >>> "):
            found.append((line[8:], None))
        else:
            found[-1] = (found[-1][0], line[4:])
    return found


def given(statement, names):
    """What a statement gives, written as the document writes it."""
    try:
        return repr(eval(statement, names))
    except KeepError as error:
        fields = ", ".join([f"{name}={value!r}" for name, value in vars(error).items()])
        return f"raises {error.__class__.__name__}({fields})"


class Examples(unittest.TestCase):
    def test_examples(self):
        names = {}
        many = 0
        for point, text in ((10, VALUES),) + POINTS:
            for statement, expected in told(text):
                with self.subTest(point=point, statement=statement):
                    if expected is None:
                        exec(statement, names)
                    else:
                        self.assertEqual(given(statement, names), expected)
                        many += 1
        self.assertEqual(many, 121)


if __name__ == "__main__":
    unittest.main()
