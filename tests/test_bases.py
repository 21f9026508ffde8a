"""Points 6.6 to 6.10."""

import fractions
import itertools
import random
import unittest

from namelessly.bases import base, judge_tree, judge_tree_between, separating_tree, tree_between
from namelessly.errors import TooMany, UnknownName
from namelessly.kin import alike, apart_at, kin, separating_round
from namelessly.trees import height, knots, lays, lays_into, plain_tree, planted
from namelessly.webs import Web, beside, copies
from tests.support import (
    Checks, kin_pairs, odd_values, path, plain_rounds, random_tree, random_webs, ring, webs_that_are_not_kin,
)

LEAF = ("x", ())
FORK = (LEAF, ("x", (("k", 0, 2),)))


def is_spanned(rows, row):
    """Whether a row is a sum of multiples, by fractions, of some others."""
    rest = [fractions.Fraction(number) for number in row]
    reduced = []
    for number, known in enumerate(list(rows) + [None]):
        new = [fractions.Fraction(entry) for entry in known] if known is not None else rest
        for pivot, other in reduced:
            if new[pivot]:
                share = new[pivot] / other[pivot]
                new = [entry - share * also for entry, also in zip(new, other)]
        pivots = [at for at, entry in enumerate(new) if entry]
        if known is None:
            return not pivots
        if pivots:
            reduced.append((pivots[0], new))


def rooted(colour, factors, trees):
    """The tree with a root of this colour and below it a tree for each factor (kind, position)."""
    lines, parts = [], []
    for kind, position in factors:
        begin = len(lines)
        lines += [(name, tuple((word, number + begin, times) for word, number, times in below))
                  for name, below in trees[position]]
        parts.append((kind, len(lines) - 1, 1))
    return plain_tree(tuple(lines) + ((colour, tuple(parts)),))


def rows_of(one, other, tree):
    return [lays(web, place, tree) for web in (one, other) for place in web.places()]


def plain_next(one, other, before, k):
    """Basis k from the basis before it, word by word as point 6.6 tells it; no product is left out by a shorter one."""
    classes = plain_rounds([one, other], k)[k]
    kinds = sorted(set(one.kinds()) | set(other.kinds()))
    factors = [(kind, number) for kind in kinds for number in range(len(before))]
    found = []
    for colour in sorted(set(one.colours()) | set(other.colours())):
        needed = len({number for web, numbers in zip((one, other), classes)
                      for place, number in zip(web.places(), numbers) if web.colour(place) == colour})
        taken, rows, size = [], [], 0
        while len(taken) < needed:
            for product in itertools.combinations_with_replacement(factors, size):
                tree = rooted(colour, product, before)
                row = rows_of(one, other, tree)
                if len(taken) < needed and not is_spanned(rows, row):
                    taken.append(tree)
                    rows.append(row)
            size += 1
        found += taken
    return found


def plain_bases(one, other, k):
    """The list of bases 0 to k."""
    told = [[((colour, ()),) for colour in sorted(set(one.colours()) | set(other.colours()))]]
    for at in range(1, k + 1):
        told.append(plain_next(one, other, told[-1], at))
    return told


def separates(one, other, tree):
    return lays_into(one, tree) * len(other) != lays_into(other, tree) * len(one)


def too_many(call, *args, **more):
    try:
        call(*args, **more)
    except TooMany:
        return True
    return False


def small_pairs():
    """Pairs of webs for which all products can be gone through, and how many rounds of them."""
    one_kind = random_webs(100, 30, most=3, kinds=("k",), colours="xy")
    two_kinds = random_webs(101, 16, most=2, colours="xy")
    webs = list(zip(one_kind, one_kind[1:])) + list(zip(two_kinds, two_kinds[1:]))
    return [(one, other, 2) for one, other in webs] + [
        (path(3), ring(3), 3), (path(2), path(3), 3), (path(2), path(2, width=2), 3), (path(2, kind="j"), path(2), 3),
        (path(2), path(2), 3), (path(3), path(1), 2), (path(3), Web([("q", "p10"), ("a", "p2")], [("a", "q", "k", 2)]), 2),
        (path(4), path(3), 2), (ring(4), path(2, colour="z"), 3), (Web([("a", "x"), ("b", "y")], []), path(1), 3),
        (Web([(name, "x") for name in "abcd"], [("a", end, "k", 1) for end in "bcd"]), path(2), 1),
    ]


class BaseTest(Checks, unittest.TestCase):
    """Points 6.6 and 6.7."""

    def test_as_the_point_tells_it(self):
        for one, other, k in small_pairs():
            told = plain_bases(one, other, k)
            for at in range(k + 1):
                greatest = max(knots(tree) for trees in told[:at + 1] for tree in trees)
                self.same(self.fresh(base, one, other, at), told[at])
                self.same(base(one, other, at, most_knots=greatest), told[at])
                if greatest > 1:
                    self.assertTrue(too_many(base, one, other, at, most_knots=greatest - 1))

    def test_colours_in_order(self):
        one = Web([("a", "z"), ("b", "p2")], [])
        other = Web([("c", "p10"), ("d", "z")], [])
        self.same(base(one, other, 0), [(("p10", ()),), (("p2", ()),), (("z", ()),)])
        self.same(base(one, other, 5), [(("p10", ()),), (("p2", ()),), (("z", ()),)])

    def test_a_kind_that_one_web_alone_has(self):
        # The lesser kind comes first, of whichever web: a factor of it parts the places as well.
        for one, other in [(path(2, kind="p2"), path(2, kind="p10")), (path(2, kind="p10"), path(2, kind="p2"))]:
            self.same(base(one, other, 1), [(LEAF,), (LEAF, ("x", (("p10", 0, 1),)))])
            self.same(base(one, other, 2), base(one, other, 1))
        self.same(base(path(2), Web([("a", "x"), ("b", "x")], []), 1), [(LEAF,), (LEAF, ("x", (("k", 0, 1),)))])

    def test_rounds_that_part_nothing(self):
        self.same([base(ring(3), ring(4), k) for k in (0, 1, 7, 16)], [[(LEAF,)]] * 4)
        leg = (LEAF, ("x", (("k", 0, 1),)))
        self.same([base(path(3), path(3), k) for k in (1, 2)],
                  [[(LEAF,), leg], [(LEAF,), leg]])
        for one, other in [(path(4), path(3)), (path(5), path(5)), (path(3, colour="y"), path(4))]:
            for k in range(8):
                told = self.fresh(base, one, other, k)
                self.same(len(told), len({n for numbers in plain_rounds([one, other], k)[k] for n in numbers}))
                self.same(told, plain_next(one, other, base(one, other, k - 1), k) if k else told)

    def test_one_web_at_both_sides(self):
        for web in random_webs(102, 12, most=4, kinds=("k",), colours="xy"):
            first = self.fresh(base, web, web, 2)
            self.same(first, base(web, copies(web, 2)[0], 2))

    def test_a_tree_that_no_tree_of_the_next_list_uses(self):
        # Basis 1 parts the centre, whose width is 4, from the ends by a power; basis 2 does so by single factors.
        names = "abcde"
        one = Web([(name, "x") for name in names], [("a", name, "k", 1 + at) for at, name in enumerate(names[1:])])
        told = [base(one, one, k) for k in range(4)]
        greatest = [max(map(knots, trees)) for trees in told]
        self.assertGreater(greatest[1], greatest[2])
        for k in (1, 2, 3):
            self.same(base(one, one, k, most_knots=max(greatest[:k + 1])), told[k])
            self.assertTrue(too_many(base, one, one, k, most_knots=greatest[1] - 1))

    def test_the_cap(self):
        self.same(base(path(3), path(3), 0, most_knots=1), [(LEAF,)])
        self.same(base(ring(3), ring(5), 16, most_knots=1), [(LEAF,)])
        self.assertTrue(too_many(base, path(3), path(3), 1, most_knots=1))
        self.same(len(base(path(3), path(3), 1, most_knots=2)), 2)
        names = "abcdefgh"
        star = Web([(name, "x") for name in names], [("a", name, "k", 1 + at) for at, name in enumerate(names[1:])])
        self.same(max(map(knots, base(star, star, 1))), 8)

    def test_greatest_webs(self):
        source = random.Random(103)
        for widest in (1, 2, 99):
            webs = random_webs(source.randint(0, 999), 8, most=4, widest=widest)
            for one, other in zip(webs, webs[1:]):
                first = beside([one, other])[0]
                last = copies(one, 2)[0]
                for k in (1, 2, 3, 16):
                    if not too_many(base, first, last, k):
                        told = base(first, last, k)
                        self.same(len(told), len({n for numbers in plain_rounds([first, last], k)[k] for n in numbers}))

    def test_rows_of_trees_are_spanned(self):
        """Point 6.10."""
        source = random.Random(104)
        for one, other, _ in small_pairs():
            trees = base(one, other, 2)
            rows = [rows_of(one, other, tree) for tree in trees]
            for _ in range(6):
                tree = random_tree(source, most_lines=4, colours="xy", kinds=("k",))
                if height(tree) <= 2:
                    self.assertTrue(is_spanned(rows, rows_of(one, other, tree)))


class SeparatingTest(Checks, unittest.TestCase):
    """Points 6.8 and 6.10."""

    def first(self, told, rows_apart):
        """The first tree of the last list that separates, and the most knots of what comes up to it."""
        ahead = []
        for tree in told[-1]:
            ahead.append(tree)
            if rows_apart(tree):
                return tree, max(knots(also) for also in ahead + [part for trees in told[:-1] for part in trees])

    def test_kin_webs(self):
        for one, other in kin_pairs(105, 80):
            self.same([separating_tree(one, other), separating_tree(other, one, most_knots=1)], [None, None])

    def test_webs_that_are_not_kin(self):
        for one, other in webs_that_are_not_kin(106, 60):
            h = separating_round(one, other)
            tree = separating_tree(one, other)
            self.same([height(tree), plain_tree(tree), judge_tree(one, other, tree, h)], [h, tree, None])
            self.assertTrue(separates(one, other, tree))
            self.assertLessEqual(knots(tree), 60)

    def test_just_where_there_are_too_many(self):
        for one, other, _ in small_pairs():
            if not kin(one, other, None) and separating_round(one, other) <= 3:
                told = [base(one, other, k) for k in range(separating_round(one, other) + 1)]
                tree, most = self.first(told, lambda tree: separates(one, other, tree))
                found = self.fresh(separating_tree, one, other, most_knots=most)
                self.same(judge_tree(one, other, found, len(told) - 1), None)
                self.assertLessEqual(knots(found), most)
                if most > 1:
                    self.assertTrue(too_many(separating_tree, one, other, most_knots=most - 1))

    def test_what_stands_behind_the_first_one_does_not_matter(self):
        # Basis 1 goes up to four leaves; the tree of one leaf separates.
        names = "abcde"
        one = Web([(name, "x") for name in names], [("a", name, "k", 1 + at) for at, name in enumerate(names[1:])])
        other = path(5)
        self.assertTrue(too_many(base, one, other, 1, most_knots=4))
        self.same(separating_tree(one, other, most_knots=2), (LEAF, ("x", (("k", 0, 1),))))
        self.same(tree_between(one, "a", other, "a", most_knots=2), (LEAF, ("x", (("k", 0, 1),))))
        self.assertTrue(too_many(separating_tree, one, other, most_knots=1))

    def test_single_knots(self):
        one = Web([("a", "x"), ("b", "y")], [])
        other = Web([("a", "x"), ("b", "y"), ("c", "y")], [])
        tree = separating_tree(one, other, most_knots=1)
        self.assertIn(tree, [(("x", ()),), (("y", ()),)])
        tree = tree_between(one, "a", one, "b", most_knots=1)
        self.assertIn(tree, [(("x", ()),), (("y", ()),)])

    def test_trees_between(self):
        for one, other, _ in small_pairs():
            for p in one.places():
                for q in other.places():
                    h = apart_at(one, p, other, q)
                    if h is None:
                        self.same(tree_between(one, p, other, q, most_knots=1), None)
                        continue
                    told = [base(one, other, k) for k in range(h + 1)]
                    _, most = self.first(told, lambda tree: lays(one, p, tree) != lays(other, q, tree))
                    for found in (tree_between(one, p, other, q), self.fresh(tree_between, one, p, other, q, most_knots=most)):
                        self.same([height(found), plain_tree(found)], [h, found])
                        self.assertNotEqual(lays(one, p, found), lays(other, q, found))
                        self.same(judge_tree_between(one, p, other, q, found, h), None)
                    self.assertLessEqual(knots(found), most)
                    if most > 1:
                        self.assertTrue(too_many(tree_between, one, p, other, q, most_knots=most - 1))

    def test_one_web_at_both_sides(self):
        self.same([separating_tree(path(5), path(5)), tree_between(path(5), "a", path(5), "e")], [None, None])
        tree = tree_between(path(5), "b", path(5), "c")
        self.same([height(tree), judge_tree_between(path(5), "b", path(5), "c", tree, 2)], [2, None])

    def test_parted_late(self):
        one = beside([path(4), ring(4)])[0]
        other = beside([ring(3), path(5)])[0]
        tree = separating_tree(one, other)
        self.same([height(tree), judge_tree(one, other, tree, 3)], [3, None])
        one, other = path(7), path(8)
        tree = tree_between(one, "a", other, "a")
        self.same(height(tree), apart_at(one, "a", other, "a"))

    def test_strange_places(self):
        for value in odd_values() + ["d", "x", "k"]:
            self.refuses(UnknownName, value, tree_between, path(3), value, path(4), "zz")
            self.refuses(UnknownName, value, tree_between, path(4), "d", path(3), value, most_knots=1)

    def test_alike_places_and_kin_webs_are_not_separated(self):
        source = random.Random(107)
        for one, other in kin_pairs(108, 40, most=5) + webs_that_are_not_kin(109, 40, most=5):
            for _ in range(10):
                tree = random_tree(source)
                high = height(tree)
                if kin(one, other, high):
                    self.assertFalse(separates(one, other, tree))
                for p in one.places():
                    for q in other.places():
                        if alike(one, p, other, q, high):
                            self.same(lays(one, p, tree), lays(other, q, tree))


class JudgeTest(Checks, unittest.TestCase):
    """Point 6.9."""

    def setUp(self):
        self.star = Web([(name, "x") for name in "abcd"], [("a", end, "k", 1) for end in "bcd"])
        self.ring = beside([ring(3), path(1)])[0]

    def test_judge_tree(self):
        three = (LEAF, ("x", (("k", 0, 3),)))
        self.same(self.fresh(judge_tree, self.star, self.ring, three, 1), None)
        self.same(judge_tree(self.star, self.ring, three, 7), None)
        self.same(judge_tree(self.star, self.ring, three, 0), ("height", 1))
        self.same(self.fresh(judge_tree, self.star, self.ring, FORK, 1), ("equal", 12, 12))
        self.same(judge_tree(self.star, self.ring, FORK, 0), ("height", 1))
        self.same(judge_tree(self.star, self.ring, planted("q", "k", FORK), 1), ("height", 2))
        self.same(judge_tree(self.star, self.ring, planted("q", "k", FORK), 2), ("equal", 0, 0))
        self.same(judge_tree(ring(3), ring(4), FORK, 1), ("equal", 12, 16))
        self.same(judge_tree(ring(3), beside([ring(3), path(2)])[0], (LEAF,), 0), ("equal", 3, 5))
        self.same(judge_tree(path(1), path(1, colour="y"), (LEAF,), 0), None)

    def test_judge_tree_between(self):
        self.same(self.fresh(judge_tree_between, self.star, "b", self.ring, "p3", FORK, 1), None)
        self.same(judge_tree_between(self.star, "b", self.star, "c", FORK, 1), ("equal", 1))
        self.same(judge_tree_between(self.star, "b", self.star, "c", FORK, 0), ("height", 1))
        self.same(judge_tree_between(self.star, "a", self.ring, "p0", (LEAF,), 0), ("equal", 1))
        self.same(judge_tree_between(self.star, "a", self.ring, "p0", FORK, 3), None)
        self.same(judge_tree_between(self.star, "a", self.ring, "p0", (("q", ()),), 3), ("equal", 0))

    def test_form(self):
        for value in odd_values() + [
            [LEAF], (LEAF, LEAF), (list(LEAF),), (("x", []),), (LEAF, ("x", (("k", 0, 0),))), (LEAF, ("x", (("k", 1, 1),))),
            (LEAF, ("x", (("k", True, 1),))), (LEAF, ("x", (("k", 0, 200),))), (LEAF, ("x", (("k", 0, 1), ("k", 0, 1)))),
            (LEAF, ("x", [("k", 0, 1)])), {0: LEAF}, (FORK,),
        ]:
            self.same(self.fresh(judge_tree, self.star, self.ring, value, 0), ("form",))
            self.same(self.fresh(judge_tree_between, self.star, "a", self.ring, "p0", value, 0), ("form",))

    def test_strange_places(self):
        for value in odd_values() + ["e", "k"]:
            self.refuses(UnknownName, value, judge_tree_between, self.star, value, self.ring, "zz", [], 0)
            self.refuses(UnknownName, value, judge_tree_between, self.star, "a", self.ring, value, FORK, 1)

    def test_great_webs(self):
        great = copies(path(5), 48)[0]
        other = copies(path(4), 60)[0]
        self.same(judge_tree(great, path(5), FORK, 1), ("equal", 14 * 48, 14))
        self.same(judge_tree(great, other, FORK, 1), None)
        self.same(judge_tree_between(great, "p239", other, "p0", FORK, 1), ("equal", 1))


if __name__ == "__main__":
    unittest.main()
