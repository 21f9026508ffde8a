"""Points 6.1 to 6.5."""

import random
import unittest

from namelessly.errors import BadName, BadNumber, BadTree, TooMany, UnknownName
from namelessly.trees import (
    cut_tree, height, knots, lays, lays_into, need_tree, plain_tree, planted, put_together,
)
from namelessly.webs import Web, copies
from tests.support import (
    Checks, WORDS, count_knots, expanded, measure, odd_values, path, plain_lays, plain_lines_of, random_tree, random_webs,
    ring,
)

LEAF = ("x", ())
FORK = (LEAF, ("x", (("k", 0, 2),)))
WEB = path(3)

# Each call of the part that takes a tree, with the tree left out.
CALLS = [
    need_tree, knots, height, plain_tree, lambda tree: lays(WEB, "a", tree), lambda tree: lays_into(WEB, tree),
    lambda tree: put_together(tree, FORK), lambda tree: put_together(FORK, tree), lambda tree: planted("x", "k", tree),
    lambda tree: cut_tree(tree, 1),
]


def stalk(many, colour="x", kind="k"):
    """A tree of so many knots, one below the other."""
    return tuple((colour, ((kind, at - 1, 1),) if at else ()) for at in range(many))


def bush(leaves, colour="x", kind="k"):
    """A root with so many leaves."""
    return ((colour, ()), (colour, ((kind, 0, leaves),)))


def some_trees(seed, many, **more):
    source = random.Random(seed)
    return [random_tree(source, **more) for _ in range(many)]


WRONG = [(value, 0) for value in odd_values()] + [
    ([LEAF], 0), ((LEAF, LEAF), 0), ((LEAF, FORK[1], LEAF), 1), ((["x", ()],), 0), ((("x", []),), 0), (("x", ()), 0),
    ((LEAF, ["x", (("k", 0, 1),)]), 1), ((LEAF, ("x", [("k", 0, 1)])), 1), ((LEAF, ("x", (["k", 0, 1],))), 1),
    ((("x", (), ()),), 0), ((("x",),), 0), ((("X", ()),), 0), (((1, ()),), 0), ((("", ()),), 0), (((["x"], ()),), 0),
    ((("x", None),), 0), ((("x", ""),), 0), ((("x", {}),), 0), ((("x", ("k", 0, 1)),), 0), ((("x", ((),)),), 0),
    ((("x", (("k", 0, 1),)),), 0), ((LEAF, ("x", (("k", 1, 1),))), 1), ((LEAF, ("x", (("k", 2, 1),)), LEAF), 1),
    ((LEAF, ("x", (("k", -1, 1),))), 1), ((LEAF, ("x", (("k", 0, 0),))), 1), ((LEAF, ("x", (("k", 0, -1),))), 1),
    ((LEAF, ("x", (("k", True, 1),))), 1), ((LEAF, ("x", (("k", False, 1),))), 1), ((LEAF, ("x", (("k", 0, True),))), 1),
    ((LEAF, ("x", (("k", 0, None),))), 1), ((LEAF, ("x", (("k", "0", 1),))), 1), ((LEAF, ("x", (("k", 0),))), 1),
    ((LEAF, ("x", (("k", 0, 1, 1),))), 1), ((LEAF, ("x", (("K", 0, 1),))), 1), ((LEAF, ("x", ((1, 0, 1),))), 1),
    ((LEAF, ("x", (("k", 0, 1), ("k", 0, 1)))), 1), ((LEAF, ("x", (("l", 0, 1), ("k", 0, 1)))), 1),
    ((LEAF, LEAF, ("x", (("k", 1, 1), ("k", 0, 1)))), 2), ((LEAF, LEAF, ("x", (("k", 0, 1), ("k", 0, 2)))), 2),
    ((LEAF, ("x", (("p2", 0, 1), ("p10", 0, 1)))), 1), ((LEAF, ("x", (("k", 0, 200),))), 1),
    ((LEAF, ("x", (("k", 0, 10 ** 39),))), 1), ((LEAF, ("x", (("k", 0, 100), ("l", 0, 100)))), 1),
    ((LEAF, ("x", (("k", 0, 99),)), ("x", (("k", 1, 2),))), 2), ((LEAF, ("x", (("k", 0, 200),)), ("x", (("k", 1, 1),))), 1),
    (stalk(201), 200), (stalk(250), 200), ((LEAF, LEAF, ("x", (("k", 0, 1),))), 1), ((LEAF, LEAF, ("x", (("k", 1, 1),))), 0),
    ((LEAF, LEAF, LEAF, ("x", (("k", 1, 1),))), 0), ((LEAF, LEAF, LEAF), 0), ((LEAF, ("x", (("k", 0, 1),)), LEAF), 1),
    # A line that is used only by a line that is not used itself; a wrong form behind an unused line.
    ((LEAF, ("y", (("k", 0, 1),)), ("z", ())), 1), ((LEAF, LEAF, ("x", ()), 7), 3), ((LEAF, LEAF, ("x", (("k", 0, 0),))), 2),
]


class NeedTest(Checks, unittest.TestCase):
    """Points 6.1 and 6.2."""

    def test_trees(self):
        for tree in some_trees(80, 150) + [
            (LEAF,), FORK, stalk(200), bush(199), (LEAF, LEAF, ("x", (("k", 0, 1), ("k", 1, 1)))),
            (LEAF, ("x", (("k", 0, 1), ("l", 0, 1)))), (LEAF, ("x", (("p10", 0, 1), ("p2", 0, 1)))),
            (LEAF, ("x", (("k", 0, 98),)), ("x", (("k", 0, 1), ("k", 1, 2)))),
        ]:
            self.same(need_tree(tree), None)
            knot = expanded(tree)
            self.same([knots(tree), height(tree)], [count_knots(knot), measure(knot)])
        for word in WORDS:
            self.same(need_tree(((word, ()), (word, ((word, 0, 1),)))), None)

    def test_knots_and_height(self):
        self.same([knots((LEAF,)), height((LEAF,)), knots(FORK), height(FORK)], [1, 0, 3, 1])
        self.same([knots(stalk(200)), height(stalk(200)), knots(bush(199)), height(bush(199))], [200, 199, 200, 1])
        tree = (LEAF, ("y", (("k", 0, 3),)), ("z", ()), ("x", (("k", 1, 2), ("l", 0, 1), ("l", 2, 4))))
        self.same([knots(tree), height(tree)], [14, 2])

    def test_what_is_no_tree(self):
        for call in CALLS:
            for value, line in WRONG:
                self.refuses(BadTree, line, call, value)

    def test_all_small_changes(self):
        source = random.Random(81)
        for tree in some_trees(82, 60, most_lines=4):
            for at, (colour, parts) in enumerate(tree):
                for number, part in enumerate(parts):
                    for changed in [(part[0], at, part[2]), (part[0], part[1], 0), list(part), part[:2], part + (1,)]:
                        line = (colour, parts[:number] + (changed,) + parts[number + 1:])
                        self.refuses(BadTree, at, need_tree, tree[:at] + (line,) + tree[at + 1:])
                    doubled = (colour, parts[:number] + (part, part) + parts[number + 1:])
                    self.refuses(BadTree, at, source.choice(CALLS), tree[:at] + (doubled,) + tree[at + 1:])
                if len(parts) > 1:
                    turned = (colour, parts[::-1])
                    self.refuses(BadTree, at, source.choice(CALLS), tree[:at] + (turned,) + tree[at + 1:])
                self.refuses(BadTree, at, source.choice(CALLS), tree[:at] + ([colour, parts],) + tree[at + 1:])
            self.refuses(BadTree, len(tree) - 1, source.choice(CALLS), tree + (LEAF,))
            self.refuses(BadTree, 0, source.choice(CALLS), list(tree))


class PlainTest(Checks, unittest.TestCase):
    """Point 6.3."""

    def test_as_the_point_tells_it(self):
        for tree in some_trees(83, 200, colours="xy") + [(LEAF,), FORK, stalk(30), bush(50)]:
            told = self.fresh(plain_tree, tree)
            self.same(told, plain_lines_of(expanded(tree)))
            self.same(plain_tree(told), told)
            self.same([knots(told), height(told)], [knots(tree), height(tree)])

    def test_all_ways_to_write_a_tree(self):
        wanted = (LEAF, ("y", ()), ("x", (("k", 0, 2), ("l", 1, 1))))
        for tree in [
            wanted, (("y", ()), LEAF, ("x", (("k", 1, 2), ("l", 0, 1)))),
            (LEAF, ("y", ()), LEAF, ("x", (("k", 0, 1), ("k", 2, 1), ("l", 1, 1)))),
        ]:
            self.same(plain_tree(tree), wanted)
        for times in range(1, 5):
            split = (LEAF,) * times + (("x", tuple(("k", number, 1) for number in range(times))),)
            self.same(plain_tree(split), bush(times))

    def test_lines_go_by_height_and_then_as_tuples(self):
        tree = (("z", ()), ("a", (("k", 0, 1),)), ("b", ()), ("p2", (("k", 2, 1),)), ("p10", (("k", 2, 1),)),
                ("c", (("k", 1, 1), ("k", 3, 1), ("k", 4, 1))))
        self.same(plain_tree(tree), (("b", ()), ("z", ()), ("a", (("k", 1, 1),)), ("p10", (("k", 0, 1),)),
                                     ("p2", (("k", 0, 1),)), ("c", (("k", 2, 1), ("k", 3, 1), ("k", 4, 1)))))
        tree = (LEAF, ("x", (("k", 0, 10),)), ("x", (("k", 0, 9),)), ("x", (("j", 0, 11),)), ("x", (("k", 0, 9), ("l", 0, 1))),
                ("x", (("k", 1, 1), ("k", 2, 1), ("k", 3, 1), ("k", 4, 1))))
        self.same(plain_tree(tree)[1:5], (("x", (("j", 0, 11),)), ("x", (("k", 0, 9),)), ("x", (("k", 0, 9), ("l", 0, 1))),
                                          ("x", (("k", 0, 10),))))

    def test_the_order_goes_by_the_new_numbers(self):
        tree = (("y", ()), ("x", ()), ("x", (("k", 0, 1),)), ("x", (("k", 1, 1),)), ("x", (("k", 2, 1), ("l", 3, 1))))
        self.same(plain_tree(tree), (("x", ()), ("y", ()), ("x", (("k", 0, 1),)), ("x", (("k", 1, 1),)),
                                     ("x", (("k", 3, 1), ("l", 2, 1)))))


class LaysTest(Checks, unittest.TestCase):
    """Point 6.4."""

    def test_as_the_point_tells_it(self):
        webs = random_webs(84, 60)
        for web, tree in zip(webs, some_trees(85, 60, most_knots=9)):
            knot = expanded(tree)
            wanted = [plain_lays(web, place, knot) for place in web.places()]
            self.same([self.fresh(lays, web, place, tree) for place in web.places()], wanted)
            self.same(self.fresh(lays_into, web, tree), sum(wanted))
            self.same(lays_into(web, plain_tree(tree)), sum(wanted))

    def test_a_tree_may_go_back(self):
        web = Web([("b", "y"), ("a", "x")], [("a", "b", "k", 3)])
        tree = (LEAF, ("y", (("k", 0, 1),)), ("x", (("k", 1, 2),)))
        self.same([lays(web, "a", tree), lays(web, "b", tree), lays_into(web, tree)], [81, 0, 81])

    def test_times_are_powers(self):
        web = path(3)
        self.same([lays(web, place, bush(5)) for place in "abc"], [1, 32, 1])
        self.same([lays(web, "b", bush(199)), lays_into(ring(3), bush(199))], [2 ** 199, 3 * 2 ** 199])
        self.same(lays(path(2, width=99), "a", stalk(200)), 99 ** 199)

    def test_strange_colours_and_kinds(self):
        for tree in [(("q", ()),), (("q", ()), ("x", (("k", 0, 1),))), bush(2, kind="q"), bush(1, colour="q"),
                     (LEAF, ("x", (("k", 0, 1), ("q", 0, 1))))]:
            self.same([lays(WEB, "b", tree), lays_into(WEB, tree)], [0, 0])
        self.same([lays(WEB, "b", (LEAF,)), lays_into(WEB, (LEAF,)), lays_into(path(1), FORK)], [1, 3, 0])

    def test_strange_places_come_first(self):
        for value in odd_values() + ["d", "k", "x"]:
            self.refuses(UnknownName, value, lays, WEB, value, FORK)
            self.refuses(UnknownName, value, lays, WEB, value, [FORK])

    def test_great_webs(self):
        great, _ = copies(path(5), 48)
        self.same(lays_into(great, FORK), 48 * lays_into(path(5), FORK))
        self.same(lays(great, "p237", stalk(200)), lays(path(5), "c", stalk(200)))
        self.same(lays_into(great, bush(199)), 48 * (2 + 3 * 2 ** 199))


class MadeTest(Checks, unittest.TestCase):
    """Point 6.5."""

    def test_put_together(self):
        source = random.Random(86)
        trees = some_trees(87, 120, colours="xy")
        webs = random_webs(88, 10)
        for _ in range(150):
            one, other = source.choice(trees), source.choice(trees)
            told = self.fresh(put_together, one, other)
            if one[-1][0] != other[-1][0]:
                self.same(told, None)
                continue
            first, last = expanded(one), expanded(other)
            self.same(told, plain_lines_of((first[0], tuple(sorted(first[1] + last[1])))))
            self.same(told, put_together(other, one))
            for web in webs[:3]:
                self.same([lays(web, place, told) for place in web.places()],
                          [lays(web, place, one) * lays(web, place, other) for place in web.places()])
        self.same(put_together((LEAF,), (LEAF,)), (LEAF,))
        self.same(put_together((LEAF,), FORK), FORK)

    def test_put_together_errors(self):
        for value, line in WRONG:
            self.refuses(BadTree, line, put_together, value, [])
            self.refuses(BadTree, line, put_together, (("q", ()),), value)
        self.same(put_together(bush(199), bush(199, colour="y")), None)
        self.same(knots(put_together(bush(100), bush(99))), 200)
        self.same(put_together(bush(199), (LEAF,)), bush(199))
        self.same(put_together(bush(100), bush(99)), bush(199))
        for one, other in [(bush(100), bush(100)), (bush(199), bush(1)), (stalk(2), stalk(200)), (stalk(101), bush(100))]:
            self.assert_too_many(put_together, one, other)

    def test_planted(self):
        for tree in some_trees(89, 60):
            told = self.fresh(planted, "y", "j", tree)
            self.same(told, plain_lines_of(("y", (("j", expanded(tree)),))))
        self.same(planted("r", "t", FORK), (("x", ()), ("x", (("k", 0, 2),)), ("r", (("t", 1, 1),))))
        for web in random_webs(90, 20):
            for tree in some_trees(91, 5):
                told = planted("x", "k", tree)
                for place in web.places():
                    wanted = sum(web.width(place, r, "k") * lays(web, r, tree) for r in web.places())
                    self.same(lays(web, place, told), wanted if web.colour(place) == "x" else 0)

    def test_planted_errors(self):
        for value in odd_values():
            self.refuses(BadName, value, planted, value, "K", [])
            self.refuses(BadName, value, planted, "x", value, [])
        for value, line in WRONG:
            self.refuses(BadTree, line, planted, "x", "k", value)
        self.same(planted("x", "k", stalk(199)), stalk(200))
        self.same(knots(planted("x", "k", bush(198))), 200)
        self.assert_too_many(planted, "x", "k", stalk(200))
        self.assert_too_many(planted, "x", "k", bush(199))

    def cut(self, knot, high):
        return (knot[0], tuple(sorted((kind, self.cut(below, high - 1)) for kind, below in knot[1])) if high else ())

    def test_cut_tree(self):
        for tree in some_trees(92, 100, colours="xy", most_knots=40):
            for high in (0, 1, 2, 3, height(tree), height(tree) + 1, 10 ** 39):
                told = self.fresh(cut_tree, tree, high)
                self.same(told, plain_lines_of(self.cut(expanded(tree), min(high, 20))))
        self.same(cut_tree(stalk(200), 150), stalk(151))
        self.same([cut_tree(FORK, 0), cut_tree(FORK, 1), cut_tree(bush(199), 0)], [(LEAF,), FORK, (LEAF,)])
        # One line at two depths: cut at the one, whole at the other.
        tree = (LEAF, ("x", (("k", 0, 1),)), ("x", (("k", 1, 1), ("l", 0, 1), ("l", 1, 1))), ("x", (("k", 1, 1), ("k", 2, 1))))
        self.same(cut_tree(tree, 2), plain_lines_of(self.cut(expanded(tree), 2)))

    def test_cut_tree_errors(self):
        for value in [value for value in odd_values() if type(value) is not int] + [-1, -10 ** 39]:
            self.refuses(BadNumber, value, cut_tree, FORK, value)
            self.refuses(BadTree, 0, cut_tree, [], value)
        for value, line in WRONG:
            self.refuses(BadTree, line, cut_tree, value, -1)

    def assert_too_many(self, call, *args):
        with self.assertRaises(TooMany):
            call(*args)


if __name__ == "__main__":
    unittest.main()
