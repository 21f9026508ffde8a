"""Points 2.4 and 2.5."""

import itertools
import random
import unittest

from namelessly.balanced import coarsest, common_coarser, judge_balanced, numbered, refines, table
from namelessly.rounds import settled
from namelessly.texts import read_web, web_text
from namelessly.webs import Web, copies
from tests.support import Checks, odd_values, path, random_webs, ring

NO_TIES = Web([(name, "x") for name in "abcde"], [])


def as_they_come(values):
    first = []
    for value in values:
        if value not in first:
            first.append(value)
    return [first.index(value) for value in values]


def all_colourings(many):
    """All colourings of so many places, numbered as they come."""
    return [list(row) for row in itertools.product(range(many), repeat=many) if as_they_come(row) == list(row)]


def sums(web, p, kind, colouring):
    return [sum(web.width(p, r, kind) for r, number in zip(web.places(), colouring) if number == wanted)
            for wanted in range(max(colouring) + 1)]


def plain_fault(web, colouring):
    """What judge_balanced tells of a colouring, word by word as point 2.4 does."""
    pairs = [(p, q) for p, q in itertools.combinations(range(len(web)), 2) if colouring[p] == colouring[q]]
    names = web.places()
    for p, q in pairs:
        if web.colour(names[p]) != web.colour(names[q]):
            return ("colour", names[p], names[q])
    for p, q in pairs:
        for kind in web.kinds():
            if sums(web, names[p], kind, colouring) != sums(web, names[q], kind, colouring):
                return ("sum", names[p], names[q], kind)
    return None


def plain_refines(first, last):
    return all(last[p] == last[q] for p, q in itertools.combinations(range(len(first)), 2) if first[p] == first[q])


def shuffled(colouring, source):
    """The same classes under other numbers."""
    new = list(range(max(colouring) + 1))
    source.shuffle(new)
    return [new[number] for number in colouring]


class JudgeTest(Checks, unittest.TestCase):
    """Point 2.4: judge_balanced."""

    def test_all_colourings(self):
        source = random.Random(7)
        for web in random_webs(8, 60) + [path(4), path(5), ring(4), ring(5), NO_TIES]:
            for colouring in all_colourings(len(web)):
                wanted = plain_fault(web, colouring)
                self.same(self.fresh(judge_balanced, web, colouring), wanted)
                other = shuffled(colouring, source)
                self.same(judge_balanced(web, other), wanted)
                self.same(judge_balanced(web, tuple(other)), wanted)

    def test_colour_ahead_of_sum(self):
        web = Web([("b", "x"), ("a", "x"), ("c", "x"), ("d", "y")], [("b", "c", "k", 1)])
        self.same(judge_balanced(web, [0, 0, 1, 1]), ("colour", "c", "d"))
        self.same(judge_balanced(web, [0, 0, 0, 1]), ("sum", "b", "a", "k"))
        self.same(judge_balanced(web, [0, 0, 0, 0]), ("colour", "b", "d"))

    def test_first_p_then_first_q_then_first_kind(self):
        web = Web([(name, "x") for name in "dcba"], [("a", "c", "k", 1), ("a", "c", "j", 1), ("b", "a", "j", 1)])
        self.same(judge_balanced(web, [0, 1, 0, 1]), ("sum", "d", "b", "j"))
        self.same(judge_balanced(web, [1, 0, 2, 0]), ("sum", "c", "a", "j"))
        self.same(judge_balanced(web, [0, 0, 0, 0]), ("sum", "d", "c", "j"))
        kinds = Web([("a", "x"), ("b", "x"), ("c", "y")], [("a", "c", "p2", 1), ("b", "c", "p10", 1)])
        self.same(judge_balanced(kinds, [0, 0, 1]), ("sum", "a", "b", "p10"))
        three = Web([(name, "x") for name in "abc"], [("b", "c", "k", 1)])
        self.same(judge_balanced(three, [0, 0, 0]), ("sum", "a", "b", "k"))
        self.same(judge_balanced(three, [1, 0, 0]), None)
        late = Web([("a", "x"), ("b", "x"), ("c", "x"), ("d", "y")], [("c", "d", "k", 1)])
        self.same(judge_balanced(late, [0, 0, 0, 1]), ("sum", "a", "c", "k"))

    def test_the_same_sum_to_all_is_not_enough(self):
        web = Web([(name, "x") for name in "abcd"], [("a", "c", "k", 1), ("b", "d", "k", 1)])
        self.same(judge_balanced(web, [0, 0, 1, 2]), ("sum", "a", "b", "k"))
        self.same(judge_balanced(web, [0, 0, 1, 1]), None)

    def test_form(self):
        web = path(3)
        for value in odd_values() + [
            [0, 1], [0, 1, 0, 1], [0, 2, 0], [1, 1, 1], [1, 2, 1], [0, True, 0], [False, 1, False], [0, 1, None],
            [0, -1, 0], [1, -1, 1], [-1, 1, 1], [0, "1", 0], ["0", "1", "0"], [0, [1], 0], [[0, 1, 0]], (0, 1), ([0], [1], [0]), "010",
            {0: 0, 1: 1, 2: 0}, {"a": 0, "b": 1, "c": 0}, [0, 10 ** 39, 0], [0, {}, 0], [10 ** 39] * 3, [2, 1, 2],
        ]:
            self.same(self.fresh(judge_balanced, web, value), ("form",))
        self.same(judge_balanced(web, [0, 1, 0]), None)
        self.same(judge_balanced(web, (1, 0, 1)), None)

    def test_one_place(self):
        web = Web([("a", "x")], [])
        self.same([judge_balanced(web, [0]), judge_balanced(web, [1]), judge_balanced(web, [])], [None, ("form",), ("form",)])

    def test_great_webs(self):
        great = copies(path(5), 48)[0]
        self.same(judge_balanced(great, [0, 1, 2, 1, 0] * 48), None)
        self.same(judge_balanced(great, list(range(240))), None)
        self.same(judge_balanced(great, [0, 1, 2, 1, 0] * 47 + [0, 1, 2, 0, 1]), ("sum", "p0", "p238", "k"))
        self.same(len(coarsest(great, [0] * 240)), 240)
        self.same(table(great, [0, 1, 2, 1, 0] * 48), table(path(5), [0, 1, 2, 1, 0]))
        self.same(common_coarser(great, [0, 1, 2, 1, 0] * 48, list(range(240))), [0, 1, 2, 1, 0] * 48)
        names = [f"p{at}" for at in range(240)]
        ties = [(p, q, kind, 1) for i, p in enumerate(names) for q in names[:i] for kind in ("j", "k")]
        full = Web([(name, "x") for name in names], ties)
        self.same(judge_balanced(full, [0] * 240), None)
        self.same(coarsest(full, [0] * 120 + [1] * 120), [0] * 120 + [1] * 120)


class TableTest(Checks, unittest.TestCase):
    """Point 2.4: table."""

    def test_as_the_point_tells_it(self):
        source = random.Random(10)
        for web in random_webs(11, 60) + [path(5), ring(5), NO_TIES]:
            for colouring in all_colourings(len(web)):
                if plain_fault(web, colouring) is None:
                    colouring = shuffled(colouring, source)
                    wanted = {}
                    for p, i in zip(web.places(), colouring):
                        for kind in web.kinds():
                            for j, total in enumerate(sums(web, p, kind, colouring)):
                                if total > 0:
                                    wanted[(i, kind, j)] = total
                    self.same(self.fresh(table, web, colouring), wanted)
                    self.same(table(web, tuple(colouring)), wanted)
                    for (i, kind, j), total in wanted.items():
                        back = colouring.count(j) * wanted[(j, kind, i)]
                        self.assertEqual(colouring.count(i) * total, back)

    def test_no_ties(self):
        self.same(self.fresh(table, NO_TIES, [0] * 5), {})
        self.same(table(ring(3, width=2), [0, 0, 0]), {(0, "k", 0): 4})


class NumberedTest(Checks, unittest.TestCase):
    """Point 2.4: numbered."""

    def test_as_they_come(self):
        self.same(self.fresh(numbered, NO_TIES, ["u", "v", "u", "w", "v"]), [0, 1, 0, 2, 1])
        self.same(self.fresh(numbered, NO_TIES, ([5], [4], [3], [4], [5])), [0, 1, 2, 1, 0])
        self.same(self.fresh(numbered, path(1), [None]), [0])

    def test_equal_values_of_unlike_kinds(self):
        many = [
            1, True, 0, False, None, "1", "True", "None", "", [], (), {}, [1], (1,), [True], (True,), [[1]], [(1,)],
            ([1],), ((1,),), [(True,)], {1: 2}, {True: 2}, {1: True}, {"1": 2}, {(1,): 2}, {(True,): 2}, {((1,),): 2},
            {((True,),): 2}, {1: [2]}, {1: (2,)}, {1: {True: 1}}, {1: {1: 1}}, [1, 2], [12], ["1, 2"], ["1", "2"],
            [[], []], [[[]]], {0: 0}, {False: 0}, {None: 0}, {"": 0}, {(): 0}, "[]", "()", "{}", "'", '"', "'a'", "\n",
            "\\n", "\t", " ", 10 ** 39, -1, -10 ** 39, [None], {"a": "b: c"}, {"a: b": "c"}, {"a": "b", "c": "d"},
            {"a": "b', 'c': 'd"}, [{}], ({},), "number 0", Web([("a", "x")], []), Web([("a", "y")], []),
            [Web([("a", "x")], [])], (Web([("a", "x")], []),), {"w": Web([("a", "x")], [])}, path(2), path(2, width=2),
        ]
        for at, one in enumerate(many):
            for other in many[:at]:
                self.same(numbered(path(2), [one, other]), [0, 1])
        web = Web([(f"p{at}", "x") for at in range(len(many) * 2)], [])
        self.same(numbered(web, many + many), list(range(len(many))) * 2)

    def test_equal_values(self):
        again = read_web(web_text(path(3)))
        for one, other in [
            ({"a": 1, "b": [2]}, {"b": [2], "a": 1}), ([{1: 2, (3, 4): 5}], [{(3, 4): 5, 1: 2}]), (path(3), again),
            ([(path(3),)], [(again,)]), ({"x": {"y": path(3), "z": ()}}, {"x": {"z": (), "y": again}}), ("ab", "a" + "b"),
            ([], []), ((), ()), ({}, {}), (10 ** 39, 10 ** 38 * 10), (None, None),
        ]:
            self.same(self.fresh(numbered, path(3), [one, 7, other]), [0, 1, 0])

    def test_great_values(self):
        deep = []
        for _ in range(29):
            deep = [deep]
        wide = [[at] * 100 for at in range(900)]
        self.same(numbered(path(5), [deep, wide, [deep], list(wide), [deep]]), [0, 1, 2, 1, 2])
        great = copies(path(5), 48)[0]
        self.same(numbered(great, [[0] * 400 + [at % 200] for at in range(240)]), list(range(200)) + list(range(40)))


class CoarserTest(Checks, unittest.TestCase):
    """Point 2.5."""

    def test_refines(self):
        rows = all_colourings(4)
        source = random.Random(12)
        for first in rows:
            for last in rows:
                wanted = plain_refines(first, last)
                self.same(self.fresh(refines, first, last), wanted)
                self.same(refines(tuple(shuffled(first, source)), shuffled(last, source)), wanted)
        self.same([refines([0], [0]), refines([1, 0], [0, 0]), refines([0, 0], [1, 0])], [True, True, False])

    def test_coarsest(self):
        source = random.Random(13)
        for web in random_webs(14, 50) + [path(4), path(5), ring(5), NO_TIES]:
            rows = all_colourings(len(web))
            balanced = [row for row in rows if plain_fault(web, row) is None]
            for row in rows[::3]:
                told = self.fresh(coarsest, web, shuffled(row, source))
                finer = [each for each in balanced if plain_refines(each, row)]
                self.assertIn(told, finer)
                self.assertTrue(all(plain_refines(each, told) for each in finer))
                self.same(told, as_they_come(told))
                self.same(coarsest(web, tuple(row)), told)
            self.same(coarsest(web, [0] * len(web)), as_they_come(settled([web])[0]))

    def test_coarsest_is_numbered_as_they_come(self):
        web = Web([("a", "z"), ("b", "y"), ("c", "z")], [])
        self.same(coarsest(web, [1, 0, 1]), [0, 1, 0])
        self.same(coarsest(web, [0, 0, 0]), [0, 1, 0])
        self.same(coarsest(web, [1, 1, 0]), [0, 1, 2])
        self.same(coarsest(path(4), [0, 1, 1, 0]), [0, 1, 1, 0])

    def test_common_coarser(self):
        source = random.Random(15)
        for web in random_webs(16, 30, colours="x") + [ring(4), ring(5), NO_TIES]:
            rows = all_colourings(len(web))
            balanced = [row for row in rows if plain_fault(web, row) is None]
            for first, last in itertools.product(balanced[::3], balanced[::2]):
                told = self.fresh(common_coarser, web, shuffled(first, source), shuffled(last, source))
                coarser = [row for row in rows if plain_refines(first, row) and plain_refines(last, row)]
                self.assertIn(told, coarser)
                self.assertTrue(all(plain_refines(told, row) for row in coarser))
                self.same(common_coarser(web, last, tuple(first)), told)
                self.same(judge_balanced(web, told), None)

    def test_a_long_row_of_places(self):
        web = Web([(name, "x") for name in "abcdefgh"], [])
        self.same(common_coarser(web, [0, 0, 1, 1, 2, 2, 3, 3], [4, 0, 0, 1, 1, 2, 2, 3]), [0] * 8)
        self.same(common_coarser(web, [3, 2, 1, 0, 3, 2, 1, 0], [0, 1, 2, 3, 4, 5, 6, 7]), [0, 1, 2, 3, 0, 1, 2, 3])
        self.same(common_coarser(web, [0, 1, 2, 3, 3, 4, 5, 6], [0, 1, 2, 3, 4, 5, 6, 0]), [0, 1, 2, 3, 3, 4, 5, 0])


if __name__ == "__main__":
    unittest.main()
