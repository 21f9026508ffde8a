"""The examples of the interface, as they stand there; names that one makes stand for later ones, too."""

import doctest
import unittest

EXAMPLES = r'''
>>> from namelessly.webs import Web, beside, components, coloured, copies, renamed, within
>>> path = Web([("ann", "red"), ("bob", "blue"), ("cid", "red")], [("cid", "bob", "knows", 2), ("ann", "bob", "knows", 1)])
>>> [path.places(), path.ties(), path.kinds(), path.colours(), path.width("bob", "cid", "knows"), path.width("ann", "cid", "knows")]
[['ann', 'bob', 'cid'], [('ann', 'bob', 'knows', 1), ('bob', 'cid', 'knows', 2)], ['knows'], ['blue', 'red'], 2, 0]
>>> [components(within(path, ["cid", "ann"])), renamed(path, {"bob": "eve"}).places(), coloured(path, {"cid": "blue"}).colour("cid")]
[[['ann'], ['cid']], ['ann', 'eve', 'cid'], 'blue']
>>> [beside([path, within(path, ["bob"])])[1], copies(path, 2)[0].ties()[-1]]
[[{'ann': 'p0', 'bob': 'p1', 'cid': 'p2'}, {'bob': 'p3'}], ('p4', 'p5', 'knows', 2)]

>>> from namelessly.texts import read_web, web_text
>>> web_text(path)
'place ann red\nplace bob blue\nplace cid red\ntie ann bob knows 1\ntie bob cid knows 2'
>>> read_web("place a x\nplace b x\ntie b a k 3").ties()
[('a', 'b', 'k', 3)]

>>> from namelessly.rounds import class_count, rounds, settled, settling_round
>>> from namelessly.webs import Web
>>> THREE = Web([("x", "o"), ("y", "o"), ("z", "o")], [("x", "y", "c", 1), ("y", "z", "c", 1)])
>>> FOUR = Web([("a", "o"), ("b", "o"), ("d", "o"), ("e", "o")], [("a", "b", "c", 1), ("b", "d", "c", 1), ("d", "e", "c", 1)])
>>> rounds([THREE, FOUR], 2)
[[[0, 0, 0], [0, 0, 0, 0]], [[0, 1, 0], [0, 1, 1, 0]], [[0, 2, 0], [0, 1, 1, 0]]]
>>> [settling_round([THREE, FOUR]), settled([THREE, FOUR]), settling_round([THREE]), class_count([THREE, FOUR], 1)]
[3, [[0, 3, 0], [1, 2, 2, 1]], 1, 2]

>>> from namelessly.kin import alike, apart_at, kin, separating_round, shares
>>> [alike(THREE, "x", FOUR, "a", 2), alike(THREE, "x", FOUR, "a", None), apart_at(THREE, "x", FOUR, "a"), apart_at(THREE, "x", THREE, "z")]
[True, False, 3, None]
>>> [kin(THREE, FOUR, 0), kin(THREE, FOUR, None), separating_round(THREE, FOUR), shares(THREE, FOUR, 1)]
[True, False, 1, [(2, 2), (1, 2)]]

>>> from namelessly.balanced import coarsest, common_coarser, judge_balanced, numbered, refines, table
>>> [judge_balanced(THREE, [0, 1, 0]), judge_balanced(THREE, [0, 0, 1]), judge_balanced(THREE, [0, 2, 0]), table(THREE, [0, 1, 0])]
[None, ('sum', 'x', 'y', 'c'), ('form',), {(0, 'c', 1): 1, (1, 'c', 0): 2}]
>>> [coarsest(FOUR, [0, 0, 0, 0]), coarsest(FOUR, [0, 1, 1, 1]), refines([0, 1, 2], [0, 1, 0]), numbered(THREE, ["u", None, "u"])]
[[0, 1, 1, 0], [0, 1, 2, 3], True, [0, 1, 0]]
>>> [coarsest(Web([("u", "x"), ("v", "y")], []), [0, 0]), judge_balanced(THREE, [1, 0, 1]), numbered(THREE, [1, True, 1])]
[[0, 1], None, [0, 1, 0]]

>>> from namelessly.foldings import behind, is_onto, is_spread, judge_folding, led_down, led_up, places_over, way_product, ways_up
>>> from namelessly.webs import Web
>>> THREE = Web([("a", "x"), ("b", "x"), ("c", "x")], [("a", "b", "k", 1), ("b", "c", "k", 1), ("a", "c", "k", 1)])
>>> SIX = Web([(name, "x") for name in "abcdef"], [("a", "b", "k", 1), ("b", "c", "k", 1), ("c", "d", "k", 1), ("d", "e", "k", 1), ("e", "f", "k", 1), ("f", "a", "k", 1)])
>>> F = {"a": "a", "b": "b", "c": "c", "d": "a", "e": "b", "f": "c"}
>>> [judge_folding(SIX, THREE, F), judge_folding(SIX, THREE, {**F, "d": "b"}), judge_folding(SIX, THREE, [F]), judge_folding(THREE, SIX, {"a": "a", "b": "b"})]
[None, ('width', 'c', 'a', 'k'), ('form',), ('missing', 'c')]
>>> [places_over(SIX, THREE, F), is_onto(SIX, THREE, F), is_spread(SIX, THREE, F)]
[{'a': ['a', 'd'], 'b': ['b', 'e'], 'c': ['c', 'f']}, True, True]
>>> behind(F, {"a": "b", "b": "c", "c": "a"})
{'a': 'b', 'b': 'c', 'c': 'a', 'd': 'b', 'e': 'c', 'f': 'a'}
>>> [led_up(SIX, THREE, F, [0, 1, 1]), led_down(SIX, THREE, F, [0, 1, 1, 0, 1, 1]), led_down(SIX, THREE, F, [0, 1, 2, 3, 1, 2])]
[[0, 1, 1, 0, 1, 1], [0, 1, 1], None]
>>> [ways_up(SIX, THREE, F, ("a", "k", "b", "k", "a"), "d"), ways_up(SIX, THREE, F, ("c",), "f"), way_product(THREE, ("a", "k", "c"))]
[[('d', 'k', 'e', 'k', 'd')], [('f',)], 1]

>>> from namelessly.turns import turned_copies
>>> over, folding = turned_copies(THREE, 2, [0, 1, 0])
>>> [over.places(), folding, judge_folding(over, THREE, folding)]
[['p0', 'p1', 'p2', 'p3', 'p4', 'p5'], {'p0': 'a', 'p1': 'a', 'p2': 'b', 'p3': 'b', 'p4': 'c', 'p5': 'c'}, None]
>>> [over.width("p0", "p2", "k"), over.width("p0", "p4", "k"), over.width("p0", "p5", "k"), over.width("p1", "p4", "k")]
[1, 0, 1, 1]

>>> from namelessly.overs import judge_over, over_number, pairs_over, web_over
>>> TIE = Web([("x", "o"), ("y", "o")], [("x", "y", "c", 2)])
>>> RING = Web([("p", "o"), ("q", "o"), ("r", "o")], [("p", "q", "c", 1), ("q", "r", "c", 1), ("p", "r", "c", 1)])
>>> [over_number(TIE, RING), over_number(RING, TIE), over_number(THREE, FOUR), web_over(THREE, FOUR), judge_over(TIE, RING, web_over(TIE, RING))]
[12, 12, None, None, None]
>>> judge_over(TIE, RING, web_over(TIE, RING, most_places=12)) is None
True
>>> web_over(TIE, RING, most_places=11)
Traceback (most recent call last):
namelessly.errors.TooMany
>>> SELF = (RING, {"p": "p", "q": "q", "r": "r"}, {"p": "q", "q": "p", "r": "r"})
>>> [judge_over(RING, RING, SELF), pairs_over(SELF), judge_over(RING, RING, SELF[:2])]
[None, {('p', 'q'): 1, ('q', 'p'): 1, ('r', 'r'): 1}, ('form',)]

>>> from namelessly.weights import added_weights, colours_of, judge_weights, lessened, turned_over, weight_table, weights_behind, weights_of_over
>>> weight_table(THREE, SIX)
((1, 1, 1, 1, 1, 1), (1, 1, 1, 1, 1, 1), (1, 1, 1, 1, 1, 1))
>>> STAR = Web([(name, "x") for name in "abcde"], [("a", "b", "k", 1), ("a", "c", "k", 1), ("a", "d", "k", 1), ("a", "e", "k", 1)])
>>> [judge_weights(THREE, SIX, ((1,) * 6,) * 3), judge_weights(THREE, STAR, ((2, 1, 1, 1, 1),) * 3), weight_table(THREE, STAR)]
[None, ('columns', 'b'), None]
>>> X = weights_of_over(THREE, SIX, (SIX, F, {name: name for name in "abcdef"}))
>>> [X, judge_weights(THREE, SIX, X), colours_of(X)]
[((1, 0, 0, 1, 0, 0), (0, 1, 0, 0, 1, 0), (0, 0, 1, 0, 0, 1)), None, ([0, 1, 2], [0, 1, 2, 0, 1, 2])]
>>> [weights_behind(X, turned_over(X)), lessened(weights_behind(X, turned_over(X))), added_weights(X, X)[0]]
[((2, 0, 0), (0, 2, 0), (0, 0, 2)), ((1, 0, 0), (0, 1, 0), (0, 0, 1)), (2, 0, 0, 2, 0, 0)]

>>> from namelessly.trees import cut_tree, height, knots, lays, lays_into, plain_tree, planted, put_together
>>> from namelessly.webs import Web
>>> fork = (("w", ()), ("w", (("t", 0, 2),)))
>>> [knots(fork), height(fork), planted("r", "t", fork), cut_tree(planted("r", "t", fork), 1)]
[3, 1, (('w', ()), ('w', (('t', 0, 2),)), ('r', (('t', 1, 1),))), (('w', ()), ('r', (('t', 0, 1),)))]
>>> plain_tree((("w", ()), ("r", ()), ("w", ()), ("w", (("s", 0, 1), ("t", 0, 1), ("t", 1, 2), ("t", 2, 3)))))
(('r', ()), ('w', ()), ('w', (('s', 1, 1), ('t', 0, 2), ('t', 1, 4))))
>>> put_together(fork, (("r", ()), ("w", (("t", 0, 1),))))
(('r', ()), ('w', ()), ('w', (('t', 0, 1), ('t', 1, 2))))
>>> path = Web([("a", "w"), ("b", "w"), ("c", "w")], [("a", "b", "t", 1), ("b", "c", "t", 2)])
>>> [lays(path, "a", fork), lays(path, "b", fork), lays_into(path, fork), put_together(fork, planted("r", "t", fork))]
[1, 9, 14, None]

>>> from namelessly.bases import base, judge_tree, judge_tree_between, separating_tree, tree_between
>>> star = Web([("a", "w"), ("b", "w"), ("c", "w"), ("d", "w")], [("a", "b", "t", 1), ("a", "c", "t", 1), ("a", "d", "t", 1)])
>>> ring = Web([("a", "w"), ("b", "w"), ("c", "w"), ("d", "w")], [("a", "b", "t", 1), ("b", "c", "t", 1), ("a", "c", "t", 1)])
>>> base(star, ring, 1)
[(('w', ()),), (('w', ()), ('w', (('t', 0, 1),))), (('w', ()), ('w', (('t', 0, 2),))), (('w', ()), ('w', (('t', 0, 3),)))]
>>> [judge_tree(star, ring, separating_tree(star, ring), 1), separating_tree(star, star)]
[None, None]
>>> [judge_tree(star, ring, (('w', ()), ('w', (('t', 0, 3),))), 1), judge_tree(star, ring, fork, 1), judge_tree(star, ring, fork, 0)]
[None, ('equal', 12, 12), ('height', 1)]
>>> [judge_tree_between(star, "a", ring, "b", tree_between(star, "a", ring, "b"), 1), tree_between(star, "b", star, "c")]
[None, None]
>>> [judge_tree_between(star, "b", ring, "d", fork, 1), judge_tree_between(star, "b", star, "c", fork, 1), judge_tree(star, ring, (), 1)]
[None, ('equal', 1), ('form',)]

>>> from namelessly.webs import Web
>>> from namelessly.sayings import depth, holds_at, said_at
>>> path = Web([("a", "red"), ("b", "red"), ("c", "blue")], [("a", "b", "x", 1), ("b", "c", "x", 2)])
>>> saying = (("is", "red"), ("some", 2, "x", 0), ("not", 1), ("all", (0, 2)))
>>> (holds_at(path, saying), said_at(path, "b", saying), depth(saying))
(['a', 'b'], True, 1)
>>> holds_at(path, (("is", "blue"), ("some", 2, "x", 0)))
['b']
>>> (holds_at(path, (("all", ()),)), holds_at(path, (("is", "green"),)))
(['a', 'b', 'c'], [])

>>> from namelessly.webs import Web
>>> from namelessly.saidof import judge_saying, separating_saying
>>> three = Web([("a", "red"), ("b", "red"), ("c", "red")], [("a", "b", "x", 1), ("b", "c", "x", 1)])
>>> four = Web([("a", "red"), ("b", "red"), ("c", "red"), ("d", "red")], [("a", "b", "x", 1), ("b", "c", "x", 1), ("c", "d", "x", 1)])
>>> two = (("is", "red"), ("some", 2, "x", 0))
>>> (judge_saying(three, four, two, 1), judge_saying(three, four, two, 0), judge_saying(three, four, two[:1], 1), judge_saying(three, four, (), 1))
(None, ('deep', 1), ('same', 3, 4), ('form',))
>>> separating_saying(three, three) is None
True

>>> from namelessly.machines import judge_class_machine, judge_machine, letter_counts, run, run_rounds, separating_machine
>>> from namelessly.webs import Web
>>> PATH = Web([("a", "x"), ("b", "x"), ("c", "x")], [("a", "b", "k", 1), ("b", "c", "k", 1)])
>>> RING = Web([("a", "x"), ("b", "x"), ("c", "x")], [("a", "b", "k", 1), ("b", "c", "k", 1), ("c", "a", "k", 1)])
>>> ENDS = ((("x", (("k", "x", 1),), "end"), ("x", (("k", "x", 2),), "mid")),)
>>> [run(PATH, ENDS), run_rounds(RING, ENDS), letter_counts(PATH, ENDS), run(PATH, ((), ()))]
[['end', 'mid', 'end'], [['x', 'x', 'x'], ['mid', 'mid', 'mid']], {'end': 2, 'mid': 1}, ['', '', '']]
>>> [judge_machine(PATH, RING, ENDS, 1), judge_machine(PATH, RING, ENDS, 0), judge_machine(RING, RING, ENDS, 1), judge_machine(PATH, RING, None, 0)]
[None, ('rounds', 1), ('shares',), ('form',)]
>>> [len(separating_machine(PATH, RING)), separating_machine(RING, RING)]
[1, None]
>>> [judge_class_machine([PATH, RING], 1, ENDS), judge_class_machine([PATH, RING], 1, ((),)), judge_class_machine([PATH], 0, ())]
[None, ('places', (0, 'a'), (0, 'b')), None]

>>> from namelessly.wishes import alike_pair, fewest_marks, first_machine, first_places, judge_wish, marked, wish_machine
>>> [wish_machine([PATH], [(0, "a", "l"), (0, "b", "l"), (0, "c", "r")]), judge_wish([PATH], [(0, "a", "end"), (0, "b", "mid")], ("machine", ENDS))]
[('alike', 0, 2), None]
>>> [judge_wish([PATH], [(0, "a", "l")], ("machine", ENDS)), judge_wish([PATH], [(0, "a", "l"), (0, "b", "r")], ("alike", 0, 1))]
[('letter', 0), ('apart',)]
>>> [first_places(PATH), first_places(RING), first_machine(PATH, "a"), alike_pair(PATH, ["b"]), alike_pair(PATH, ["c"]), len(fewest_marks(PATH)), len(fewest_marks(RING))]
[['b'], [], None, ('a', 'c'), None, 1, 2]
>>> marked(PATH, ["c", "a"]).colour("a")
'm1'

>>> from namelessly.webs import Web
>>> from namelessly.changes import merged_kinds, moving_product, product, taken_out, times, widened, with_tie
>>> tie = Web([("a", "x"), ("b", "y")], [("a", "b", "k", 1)])
>>> [with_tie(tie, "b", "a", "l", 2).ties(), widened(tie, "b", "a", "k", 2).ties(), merged_kinds(with_tie(tie, "a", "b", "l", 2), "l", "k").ties()]
[[('a', 'b', 'k', 1), ('a', 'b', 'l', 2)], [('a', 'b', 'k', 3)], [('a', 'b', 'k', 3)]]
>>> pairs = {("x", "x"): "m0", ("x", "y"): "m1", ("y", "x"): "m1", ("y", "y"): "m2"}
>>> [product(tie, times(tie, "k", 3), pairs).ties(), moving_product(tie, tie, pairs).ties()]
[[('p0', 'p3', 'k', 3), ('p1', 'p2', 'k', 3)], [('p0', 'p1', 'k', 1), ('p0', 'p2', 'k', 1), ('p1', 'p3', 'k', 1), ('p2', 'p3', 'k', 1)]]
>>> taken_out([tie, tie], 0)[1].places()
['b']

>>> from namelessly.ledtables import beside_table, copied_table, product_table
>>> [copied_table(((1,),), 2), product_table(((1, 0), (0, 1)), ((2,),)), beside_table(((2,),), ((1, 1), (1, 1)))]
[((1, 1), (1, 1)), ((2, 0), (0, 2)), ((2, 0, 0), (0, 1, 1), (0, 1, 1))]

>>> from namelessly.office import Office
>>> from namelessly.webs import Web
>>> HALL = Office()
>>> [HALL.do(("open", "g", "a", "x")), HALL.do(("come", "g", "b", "x")), HALL.do(("tie", "g", "a", "b", "k", 1)), HALL.do(("want", "g", "a", "first"))]
[1, 2, 3, 4]
>>> [HALL.web("g") == Web([("a", "x"), ("b", "x")], [("a", "b", "k", 1)]), HALL.wanted("g"), HALL.webs(), HALL.undo(), HALL.wanted("g"), HALL.redo()]
[True, [('a', 'first')], ['g'], 3, [], 4]
>>> [HALL.branch("side"), HALL.go("side"), HALL.do(("colour", "g", "b", "y")), HALL.go("main"), HALL.do(("come", "g", "c", "x")), HALL.merge("side"), HALL.web("g").colour("b")]
[None, 4, 5, 4, 6, 7, 'y']
>>> [HALL.log()[4:], HALL.trail("main"), HALL.mark("main"), len(HALL)]
[[(4, ('colour', 'g', 'b', 'y')), (4, ('come', 'g', 'c', 'x')), (6, ('merge', 5))], [0, 1, 2, 3, 4, 6, 7], 6, 8]

>>> from namelessly.branches import clashes, elders, last_common, line_to, tried
>>> [elders(HALL, 7), last_common(HALL, 5, 6), clashes(HALL, 5, 6), line_to(HALL, 2)]
[[0, 1, 2, 3, 4, 5, 6, 7], 4, [], [('open', 'g', 'a', 'x'), ('come', 'g', 'b', 'x')]]
>>> [tried(HALL, [("close", "g"), ("open", "g", "d", "z")]), HALL.webs(), HALL.wanted("g")]
[[8, 9], ['g'], []]

>>> from namelessly.office import Office
>>> from namelessly.watching import barred_webs, changes, first_turn, steady_from, verdict, verdict_line, verdicts, would_change
>>> PAIR = Office()
>>> [PAIR.do(deed) for deed in [("open", "g", "a", "x"), ("open", "h", "a", "x"), ("come", "h", "b", "x"), ("come", "g", "b", "x"), ("tie", "h", "a", "b", "k", 1)]]
[1, 2, 3, 4, 5]
>>> [verdict(PAIR, 4, "g", "h"), verdicts(PAIR, 5), verdict_line(PAIR, "g", "h"), steady_from(PAIR, "g", "h")]
['kin', [('g', 'h', 1)], [None, None, 'kin', 'kin', 'kin', 1], 5]
>>> [would_change(PAIR, ("untie", "h", "a", "b", "k")), would_change(PAIR, ("close", "g")), changes(PAIR, 0, 1), changes(PAIR, 4, 5)]
[[('g', 'h', 1, 'kin')], [('g', 'h', 1, None)], [], [('g', 'h', 'kin', 1)]]
>>> first_turn(PAIR, "g", "h", [("come", "g", "c", "x"), ("go", "g", "c"), ("tie", "g", "a", "b", "k", 1)])
2
>>> [PAIR.do(("want", "h", "a", "left")), PAIR.do(("want", "h", "b", "right")), barred_webs(PAIR, 7), barred_webs(PAIR, 6)]
[6, 7, ['h'], []]
'''


class ExamplesTest(unittest.TestCase):

    def test_examples(self):
        examples = doctest.DocTestParser().get_doctest(EXAMPLES, {}, "examples", None, 0)
        told = []
        results = doctest.DocTestRunner(verbose=False).run(examples, out=told.append)
        self.assertGreater(results.attempted, 0)
        self.assertEqual(results.failed, 0, "".join(told))


if __name__ == "__main__":
    unittest.main()
