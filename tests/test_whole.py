"""What holds over the whole program: points 0.1, 6.10 and 9.5."""

import random
import unittest

from namelessly.bases import base, judge_tree, judge_tree_between, separating_tree, tree_between
from namelessly.changes import mapped_colours, merged_kinds, moving_product, product, struck, taken_out, times
from namelessly.errors import BadNumber, TooMany
from namelessly.kin import alike, apart_at, kin, separating_round, shares
from namelessly.ledtables import beside_table, copied_table, product_table, taken_out_table
from namelessly.machines import class_machine, judge_machine, letter_counts, separating_machine
from namelessly.office import Office
from namelessly.overs import judge_over, over_number, web_over
from namelessly.rounds import settling_round
from namelessly.saidof import judge_saying, judge_saying_between, saying_between, separating_saying
from namelessly.trees import height, lays, lays_into
from namelessly.watching import judge_verdict, verdict, verdict_paper
from namelessly.webs import Web, beside, copies
from namelessly.weights import colours_of, judge_weights, weight_table, weights_of_over
from namelessly.wishes import judge_wish, wish_machine
from tests.support import (
    Checks, kin_pairs, path, plain_kin, random_machine, random_saying, random_tree, ring, webs_that_are_not_kin,
)

PAIRS = {(x, y): x + y for x in "xyz" for y in "xyz"}


def unless_too_many(call, *args):
    """What a call tells, or "too many"."""
    try:
        return call(*args)
    except TooMany:
        return "too many"


class SixSidesTest(Checks, unittest.TestCase):
    """Point 0.1."""

    def check_kin(self, one, other):
        self.same([kin(one, other, None), separating_round(one, other)], [True, None])
        last = settling_round([one, other])
        self.assertTrue(all(n * len(other) == m * len(one) for n, m in shares(one, other, last)))
        for k in (0, last):
            machine = class_machine([one, other], k)
            first, second = letter_counts(one, machine), letter_counts(other, machine)
            self.assertTrue(all(first[letter] * len(other) == second[letter] * len(one) for letter in first))
            self.assertEqual(list(first), list(second))
        table = weight_table(one, other)
        self.same(judge_weights(one, other, table), None)
        self.assertIsInstance(over_number(one, other), int)
        paper = unless_too_many(web_over, one, other)
        self.same(paper == "too many", over_number(one, other) > 240)
        if paper != "too many":
            self.same([judge_over(one, other, paper), judge_weights(one, other, weights_of_over(one, other, paper))], [None, None])
        self.same([call(one, other) for call in (separating_machine, separating_tree, separating_saying)], [None] * 3)

    def check_apart(self, one, other):
        h = separating_round(one, other)
        self.same([kin(one, other, None), weight_table(one, other), over_number(one, other), web_over(one, other)],
                  [False, None, None, None])
        machine, saying = separating_machine(one, other), separating_saying(one, other)
        self.same([judge_machine(one, other, machine, h), judge_saying(one, other, saying, h)], [None, None])
        tree = unless_too_many(separating_tree, one, other)
        if tree != "too many":
            self.same(judge_tree(one, other, tree, h), None)
        if h > 0:
            self.same([kin(one, other, h - 1), judge_machine(one, other, machine, h - 1)[0], judge_saying(one, other, saying, h - 1)[0]],
                      [True, "rounds", "deep"])
            if tree != "too many":
                self.same(judge_tree(one, other, tree, h - 1), ("height", h))

    def test_kin_webs(self):
        for one, other in kin_pairs(500, 60):
            self.check_kin(one, other)

    def test_webs_that_are_not_kin(self):
        for one, other in webs_that_are_not_kin(501, 60):
            self.check_apart(one, other)
        self.check_apart(beside([path(4), ring(4)])[0], beside([ring(3), path(5)])[0])

    def test_nothing_separates_more_than_rounds_do(self):
        source = random.Random(502)
        for one, other in kin_pairs(503, 30) + webs_that_are_not_kin(504, 40):
            h = separating_round(one, other)
            for _ in range(6):
                machine = random_machine(source, [one, other], source.randint(0, 3), kept=1)
                tree, saying = random_tree(source, colours="xy"), random_saying(source, colours="xy")
                for judge, value in ((judge_machine, machine), (judge_tree, tree), (judge_saying, saying)):
                    found = [k for k in range(12) if judge(one, other, value, k) is None]
                    self.assertTrue(not found or (h is not None and min(found) >= h))

    def test_papers_of_an_office(self):
        for one, other in kin_pairs(505, 20, most=6) + webs_that_are_not_kin(506, 20, most=6):
            office = Office()
            for name, web in (("g", one), ("h", other)):
                for at, place in enumerate(web.places()):
                    office.do(("come" if at else "open", name, place, web.colour(place)))
                for tie in web.ties():
                    office.do(("tie", name) + tie)
            self.same([office.web("g") == one, office.web("h") == other], [True, True])
            h = separating_round(one, other)
            paper = verdict_paper(office, office.present(), "g", "h")
            self.same([verdict(office, office.present(), "g", "h"), paper[0]], ["kin", "kin"] if h is None else [h, "apart"])
            self.same(judge_verdict(office, office.present(), "g", "h", paper), None)

    def test_places(self):
        source = random.Random(507)
        for one, other in kin_pairs(508, 12, most=5) + webs_that_are_not_kin(509, 12, most=5):
            for p in one.places():
                for q in other.places():
                    h = apart_at(one, p, other, q)
                    wish = [(0, p, "a"), (1, q, "b")]
                    paper = wish_machine([one, other], wish)
                    self.same([alike(one, p, other, q, None), paper[0], judge_wish([one, other], wish, paper)],
                              [h is None, "alike" if h is None else "machine", None])
                    tree, saying = unless_too_many(tree_between, one, p, other, q), saying_between(one, p, other, q)
                    self.same([tree is None, saying is None], [h is None] * 2)
                    if h is not None:
                        self.same(judge_saying_between(one, p, other, q, saying, h), None)
                        if tree != "too many":
                            self.same([judge_tree_between(one, p, other, q, tree, h), height(tree)], [None, h])
                    tree = random_tree(source, colours="xy")
                    if h is None or height(tree) < h:
                        self.same(lays(one, p, tree), lays(other, q, tree))


class TreesTest(Checks, unittest.TestCase):
    """Point 6.10."""

    def test_webs_that_are_kin_to_k(self):
        source = random.Random(510)
        for one, other in kin_pairs(511, 20, most=6) + webs_that_are_not_kin(512, 40, most=6):
            for _ in range(10):
                tree = random_tree(source, colours="xy")
                if plain_kin(one, other, height(tree)):
                    self.same(lays_into(one, tree) * len(other), lays_into(other, tree) * len(one))

    def test_bases_have_a_tree_for_each_class(self):
        for one, other in kin_pairs(513, 10, most=4) + webs_that_are_not_kin(514, 10, most=4):
            for k in range(3):
                trees = unless_too_many(base, one, other, k)
                if trees != "too many":
                    self.assertEqual(len(trees), len(shares(one, other, k)))
                    self.assertTrue(all(height(tree) <= k for tree in trees))


class ChangesTest(Checks, unittest.TestCase):
    """Points 9.5 and 9.6: whatever is changed alike, the papers go along."""

    def check(self, one, other, table):
        self.same([separating_round(one, other), judge_weights(one, other, table), separating_saying(one, other)], [None] * 3)

    def test_all_changes(self):
        source = random.Random(515)
        pairs = kin_pairs(516, 40, most=6)
        for one, other in pairs:
            table = weight_table(one, other)
            for call, args in ((times, ("k", 3)), (struck, ("l",)), (merged_kinds, ("l", "k")), (mapped_colours, ({"x": "y"},))):
                self.check(call(one, *args), call(other, *args), table)
            self.check(copies(one, 3)[0], copies(other, 3)[0], copied_table(table, 3))
            one2, other2 = source.choice(pairs)
            second = weight_table(one2, other2)
            self.check(product(one, one2, PAIRS), product(other, other2, PAIRS), product_table(table, second))
            self.check(moving_product(one, one2, PAIRS), moving_product(other, other2, PAIRS), product_table(table, second))
            both = beside_table(table, second)
            self.same(both is None, len(one) * len(other2) != len(other) * len(one2))
            if both is not None:
                self.check(beside([one, one2])[0], beside([other, other2])[0], both)
            for number in sorted(set(colours_of(table)[0])):
                try:
                    left, also = taken_out([one, other], number)
                except BadNumber:
                    self.same(len(set(colours_of(table)[0])), 1)
                else:
                    self.check(left, also, taken_out_table(one, other, table, number))

    def test_great_webs(self):
        one, other = copies(ring(3), 80)[0], copies(ring(6), 40)[0]
        self.check(one, other, weight_table(one, other))
        left = Web([(name, "y" if name == "p0" else "x") for name in one.places()], one.ties())
        h = separating_round(left, other)
        self.same([h, judge_machine(left, other, separating_machine(left, other), h)], [0, None])


if __name__ == "__main__":
    unittest.main()
