"""Points 4.1 to 4.3."""

import math
import random
import unittest

from namelessly.errors import TooMany, UnknownName
from namelessly.kin import kin
from namelessly.overs import (
    component_paper, folding_paper, judge_over, over_number, pairs_over, paper_behind, turned_paper, web_over,
)
from namelessly.turns import turned_copies
from namelessly.webs import Web, beside, coloured, components, copies
from tests.support import (
    Checks, containers, kin_pairs, odd_values, path, plain_fault, plain_rounds, random_webs, ring, turned,
    webs_that_are_not_kin,
)

TIE = path(2, width=2)
RING = ring(3)
SIX, FOLDING = turned_copies(RING, 2, [0, 1, 0])
# Over the tie by the first folding, over the ring by the last one.
PAPER = (SIX, {"p0": "a", "p1": "b", "p2": "b", "p3": "a", "p4": "a", "p5": "b"}, FOLDING)
# Two components, the one of them left out by a web over the other.
PARTS = Web([("a", "x"), ("b", "x"), ("c", "y")], [("a", "b", "k", 2)])


def plain_number(one, other):
    """M times the number of places of other, word by word as point 4.2 tells it."""
    classes = plain_rounds([one, other], 16)[16][0]
    number_of = dict(zip(one.places(), classes))
    many = {number: classes.count(number) for number in classes}
    parts = list(many.values())
    for p in one.places():
        for kind in one.kinds():
            for number in many:
                total = sum(one.width(p, r, kind) for r in one.places() if number_of[r] == number)
                if total > 0:
                    parts.append(many[number_of[p]] * total)
    return math.lcm(*parts) * len(other)


def stands(one, other, paper):
    """Whether a paper is right, told without the judges of the package."""
    web, first, last = paper
    for side, folding in ((one, first), (other, last)):
        if plain_fault(web, side, folding) is not None:
            return False
        ends = list(folding.values())
        if {ends.count(place) for place in side.places()} != {len(web) // len(side)}:
            return False
    return True


class JudgeTest(Checks, unittest.TestCase):
    """Point 4.1."""

    def test_right_papers(self):
        same = {name: name for name in "abc"}
        for one, other, paper in [
            (TIE, RING, PAPER), (RING, RING, (RING, {"a": "b", "b": "a", "c": "c"}, same)), (RING, SIX, (SIX, FOLDING, {
                name: name for name in SIX.places()})), (path(1), path(1), (path(1), {"a": "a"}, {"a": "a"})),
        ]:
            self.assertTrue(stands(one, other, paper))
            self.same(self.fresh(judge_over, one, other, paper), None)
            self.same(judge_over(other, one, (paper[0], paper[2], paper[1])), None)

    def test_turned_copies_at_both_sides(self):
        source = random.Random(40)
        for web in random_webs(41, 40):
            over, folding = turned(web, source.randint(1, 4), [source.randint(0, 3) for _ in web.ties()])
            same = {name: name for name in web.places()}
            self.same(judge_over(web, web, (over, folding, dict(folding))), None)
            self.same(judge_over(web, web, (web, same, same)), None)
            self.same(judge_over(web, over, (over, folding, {name: name for name in over.places()})), None)

    def test_form(self):
        web, first, last = PAPER
        for value in odd_values() + [
            list(PAPER), PAPER[:2], PAPER + ({},), (web,), (first, web, last), (first, last, web), (web, first, web),
            (web, list(first.items()), last), (web, first, tuple(last.items())), (web, first, None), (None, first, last),
            (True, first, last), (web, True, last), ([web], first, last), ((web, first, last),), {0: web}, (web, [], {}),
            (web, {}, []), (web, "", {}), ("web", first, last),
        ]:
            self.same(self.fresh(judge_over, TIE, RING, value), ("form",))

    def test_faults_of_the_foldings(self):
        web, first, last = PAPER
        without = {name: first[name] for name in first if name != "p4"}
        for value, fault in [
            ({}, ("missing", "p0")), (without, ("missing", "p4")), ({**first, "zz": "a", "q": "a"}, ("strange", "q")),
            ({**first, "p5": "c"}, ("unknown", "p5")), ({**first, "p5": "a"}, ("width", "p0", "a", "k")),
            ({**first, 1: "a"}, ("form",)), ({("p0", 1): []}, ("form",)), ({None: None}, ("form",)),
            ({**first, "p0": None}, ("form",)), ({True: [{}]}, ("form",)), ({**first, "p0": ["a"]}, ("form",)),
        ]:
            self.same(self.fresh(judge_over, TIE, RING, (web, value, last)), ("first", fault))
            self.same(judge_over(TIE, RING, (web, value, {})), ("first", fault))
            self.same(judge_over(RING, TIE, (web, last, value)), ("last", fault))
        self.same(judge_over(coloured(TIE, {"b": "y"}), RING, PAPER), ("first", ("colour", "p1")))
        self.same(judge_over(TIE, coloured(RING, {"c": "y"}), PAPER), ("last", ("colour", "p4")))

    def test_what_is_not_spread(self):
        over = ring(4)
        to_parts = {"a": "a", "b": "b", "c": "a", "d": "b"}
        to_tie = {"a": "b", "b": "a", "c": "b", "d": "a"}
        self.same(judge_over(PARTS, TIE, (over, to_parts, to_tie)), ("spread", 0))
        self.same(judge_over(TIE, PARTS, (over, to_tie, to_parts)), ("spread", 1))
        self.same(judge_over(PARTS, PARTS, (over, to_parts, dict(to_parts))), ("spread", 0))
        both, (lone, tied) = beside([Web([("q", "y")], []), ring(4)])
        uneven = {lone["q"]: "c", **{tied[name]: to_parts[name] for name in "abcd"}}
        same = {name: name for name in both.places()}
        self.same(judge_over(both, PARTS, (both, same, uneven)), ("spread", 1))
        self.same(judge_over(PARTS, both, (both, uneven, same)), ("spread", 0))

    def test_the_sequence_of_the_faults(self):
        over = ring(4)
        to_parts = {"a": "a", "b": "b", "c": "a", "d": "b"}
        wrong = {**to_parts, "d": "a"}
        self.same(judge_over(PARTS, PARTS, (over, to_parts, wrong)), ("last", ("width", "a", "a", "k")))
        self.same(judge_over(PARTS, PARTS, (over, wrong, {0: 0})), ("first", ("width", "a", "a", "k")))
        self.same(judge_over(PARTS, PARTS, (over, wrong, [])), ("form",))
        self.same(judge_over(PARTS, PARTS, (over, to_parts, {0: 0})), ("last", ("form",)))


class WebOverTest(Checks, unittest.TestCase):
    """Point 4.2."""

    def test_number(self):
        self.same([over_number(TIE, RING), over_number(RING, TIE)], [12, 12])
        self.same([over_number(path(3), path(4)), over_number(path(4), path(3))], [None, None])
        self.same([over_number(path(1), path(1)), over_number(RING, RING), over_number(path(3), path(3))], [1, 18, 6])
        # The classes have 2, 2 and 1 places; a sum of 3 from one of two places makes 6, one of 4 from one alone 4.
        web = Web([(name, "x") for name in "abcde"],
                  [("a", "b", "k", 3), ("b", "c", "k", 2), ("c", "d", "k", 2), ("d", "e", "k", 3)])
        self.same(over_number(web, web), 60)

    def test_number_as_the_point_tells_it(self):
        for one, other in kin_pairs(42, 120):
            self.same(self.fresh(over_number, one, other), plain_number(one, other))
            self.same(over_number(other, one), plain_number(one, other))
        for one, other in webs_that_are_not_kin(43, 30):
            self.same([over_number(one, other), web_over(one, other), web_over(one, other, most_places=1)], [None] * 3)

    def test_web_over(self):
        refused = 0
        for one, other in kin_pairs(45, 160):
            number = over_number(one, other)
            if number > 1:
                self.assert_too_many(one, other, most_places=min(number - 1, 240))
                self.assert_too_many(one, other, most_places=1)
            if number > 240:
                refused += 1
                self.assert_too_many(one, other)
                continue
            for paper in (self.fresh(web_over, one, other), web_over(one, other, most_places=number)):
                self.assertIs(type(paper), tuple)
                self.assertLessEqual(len(paper[0]), number)
                self.same(judge_over(one, other, paper), None)
                self.assertTrue(stands(one, other, paper))
                found = containers(paper)
                self.assertEqual(len(found), len({id(part) for part in found}))
        self.assertGreater(refused, 0)

    def test_one_web_at_both_sides(self):
        for web in random_webs(46, 40, most=4) + [copies(path(3), 2)[0], ring(6), path(1)]:
            number = over_number(web, web)
            if number <= 240:
                self.assertTrue(stands(web, web, web_over(web, web, most_places=number)))
            else:
                self.assert_too_many(web, web)

    def test_the_cap(self):
        self.assertTrue(stands(TIE, RING, web_over(TIE, RING, most_places=12)))
        self.assert_too_many(TIE, RING, most_places=11)
        # There is a paper of five places: the one web itself.
        web = Web([(name, "x") for name in "abcde"], [("a", "b", "k", 7), ("c", "d", "k", 5)])
        self.same(over_number(web, web), 2 * 7 * 5 * 5)
        self.assert_too_many(web, web)
        wide = path(2, width=60)
        self.same(over_number(wide, wide), 240)
        self.assertTrue(stands(wide, wide, web_over(wide, wide)))
        self.assert_too_many(wide, wide, most_places=239)

    def test_kin_of_whatever_webs(self):
        webs = random_webs(47, 40, most=3, colours="x")
        for one in webs:
            for other in webs:
                told = self.over(one, other)
                self.assertEqual(told is None, not kin(one, other, None))

    def over(self, one, other):
        try:
            paper = web_over(one, other)
        except TooMany:
            return "too many"
        if paper is not None:
            self.assertTrue(stands(one, other, paper))
        return paper

    def assert_too_many(self, one, other, **more):
        with self.assertRaises(TooMany):
            web_over(one, other, **more)

    def test_great_webs(self):
        great, _ = copies(path(5), 48)
        self.same(over_number(great, path(5)), 96 * 5)
        self.same(over_number(path(5), great), 2 * 240)
        self.assert_too_many(great, path(5))
        names = [f"p{at}" for at in range(240)]
        dense = Web([(name, "x") for name in names],
                    [(p, q, "k", 1 + (i + j) % 2) for i, p in enumerate(names) for j, q in enumerate(names[:i])])
        self.same(over_number(dense, dense), 240 * (120 * 2 + 119) * 240)
        over, folding = turned_copies(path(5), 48, [7, 0, 13, 5])
        same = {name: name for name in over.places()}
        self.same(judge_over(path(5), over, (over, folding, same)), None)
        self.same(sum(pairs_over((over, folding, same)).values()), 240)
        self.same(len(component_paper((over, folding, dict(folding)), "p239")[0]), 5)


class LedOnTest(Checks, unittest.TestCase):
    """Point 4.3."""

    def test_turned_paper(self):
        for one, other in kin_pairs(48, 30, most=4):
            if over_number(one, other) <= 240:
                paper = web_over(one, other)
                told = self.fresh(turned_paper, paper)
                self.same(told, (paper[0], paper[2], paper[1]))
                self.same(judge_over(other, one, told), None)
        same = {name: name for name in "abc"}
        told = self.fresh(turned_paper, (RING, same, same))
        self.same(told, (RING, same, same))
        self.assertIsNot(told[1], told[2])

    def test_folding_paper(self):
        told = self.fresh(folding_paper, SIX, FOLDING)
        self.same(told, (SIX, {name: name for name in SIX.places()}, FOLDING))
        self.same(judge_over(SIX, RING, told), None)
        same = {name: name for name in "abc"}
        told = self.fresh(folding_paper, RING, same)
        self.same(told, (RING, same, same))
        self.assertIsNot(told[1], told[2])

    def test_paper_behind(self):
        source = random.Random(49)
        for web in random_webs(50, 20):
            first, to_first = turned(web, 2, [source.randint(0, 1) for _ in web.ties()])
            top, lift = turned(first, 2, [source.randint(0, 1) for _ in first.ties()])
            paper = (top, lift, lift)
            self.same(judge_over(first, first, paper), None)
            same = {name: name for name in first.places()}
            told = self.fresh(paper_behind, paper, to_first, to_first)
            self.same(judge_over(web, web, told), None)
            self.same(told[1], {name: to_first[lift[name]] for name in top.places()})
            self.assertIsNot(told[1], told[2])
            told = self.fresh(paper_behind, paper, to_first, same)
            self.same(told, (top, {name: to_first[lift[name]] for name in top.places()}, lift))
            self.same(judge_over(web, first, told), None)
        turn = {"a": "b", "b": "a"}
        self.same(judge_over(TIE, RING, self.fresh(paper_behind, PAPER, turn, {"a": "b", "b": "c", "c": "a"})), None)

    def test_component_paper(self):
        both, (first, last) = beside([SIX, RING])
        to_ring = {**{first[name]: FOLDING[name] for name in SIX.places()}, **{last[name]: name for name in "abc"}}
        for one, folding in [(RING, to_ring)]:
            paper = (both, folding, folding)
            self.same(judge_over(one, one, paper), None)
            for place in both.places():
                told = self.fresh(component_paper, paper, place)
                part = next(part for part in components(both) if place in part)
                self.same(told[0].places(), part)
                self.same(told[1], {name: to_ring[name] for name in part})
                self.same(told[2], {name: to_ring[name] for name in part})
                self.assertIsNot(told[1], told[2])
                self.same(judge_over(one, one, told), None)
        self.same(component_paper(PAPER, "p3"), PAPER)

    def test_component_papers_of_webs_over_both(self):
        for one, other in kin_pairs(51, 80):
            if over_number(one, other) <= 240 and len(components(one)) == len(components(other)) == 1:
                paper = web_over(one, other)
                for place in paper[0].places()[::5]:
                    self.assertTrue(stands(one, other, component_paper(paper, place)))

    def test_strange_places(self):
        for value in odd_values() + ["a", "p6", "p00"]:
            self.refuses(UnknownName, value, component_paper, PAPER, value)

    def test_pairs_over(self):
        self.same(self.fresh(pairs_over, PAPER), {("a", "a"): 1, ("b", "a"): 1, ("b", "b"): 1, ("a", "b"): 1,
                                                  ("b", "c"): 1, ("a", "c"): 1})
        same = {"a": "a", "b": "b", "c": "c"}
        self.same(self.fresh(pairs_over, (RING, same, same)), {("a", "a"): 1, ("b", "b"): 1, ("c", "c"): 1})
        self.same(self.fresh(pairs_over, (SIX, FOLDING, FOLDING)), {("a", "a"): 2, ("b", "b"): 2, ("c", "c"): 2})
        for one, other in kin_pairs(52, 40):
            if over_number(one, other) <= 240:
                web, first, last = web_over(one, other)
                wanted = {}
                for name in web.places():
                    pair = (first[name], last[name])
                    wanted[pair] = wanted.get(pair, 0) + 1
                self.same(self.fresh(pairs_over, (web, first, last)), wanted)


if __name__ == "__main__":
    unittest.main()
