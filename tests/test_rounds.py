"""Point 2.1."""

import random
import unittest

from namelessly.errors import BadNumber
from namelessly.rounds import class_count, rounds, settled, settling_round
from namelessly.webs import Web, copies
from tests.support import Checks, ODD_VALUES, count, path, plain_rounds, plain_settling, random_web, ring


def random_lists(seed, many):
    source = random.Random(seed)
    return [[random_web(source) for _ in range(source.randint(1, 3))] for _ in range(many)]


class RoundsTest(Checks, unittest.TestCase):

    def test_as_the_point_tells_them(self):
        for webs in random_lists(3, 150):
            told = plain_rounds(webs, 6)
            self.same(self.fresh(rounds, webs, 6), told)
            for k in range(7):
                self.same(rounds(webs, k), told[:k + 1])
                self.same(class_count(webs, k), count(told[k]))

    def test_settled(self):
        for webs in random_lists(4, 150):
            last = plain_settling(webs)
            self.same(settling_round(webs), last)
            self.same(self.fresh(settled, webs), plain_rounds(webs, last)[last])

    def test_beyond_the_settling_round(self):
        webs = [path(5), ring(3)]
        last = settling_round(webs)
        told = self.fresh(rounds, webs, 16)
        self.same(len(told), 17)
        for k in range(last, 17):
            self.same(told[k], settled(webs))
            self.same(class_count(webs, k), class_count(webs, last))
        self.assertLess(class_count(webs, last - 1), class_count(webs, last))

    def test_colours_of_the_whole_list(self):
        one = Web([("a", "p2"), ("b", "z")], [])
        other = Web([("c", "p10"), ("d", "p2")], [])
        self.same(rounds([one, other], 0), [[[1, 2], [0, 1]]])
        self.same(rounds([other, one], 0), [[[0, 1], [1, 2]]])
        self.same(rounds([one], 1), [[[0, 1]], [[0, 1]]])
        self.same([settling_round([one, other]), class_count([one, other], 3)], [0, 3])

    def test_numbers_go_by_the_rows_of_sums(self):
        ties = [("a", "b", "j", 1), ("c", "d", "k", 2), ("b", "e", "k", 1)]
        web = Web([(name, "x") for name in "abcde"], ties)
        # Kind j ahead of kind k: c and d hear nothing of j, then e; what hears j comes last.
        self.same(rounds([web], 1)[1], [[2, 3, 1, 1, 0]])
        kinds = ["p9", "z", "b", "p10", "a", "p2"]
        for first in kinds:
            for last in kinds:
                webs = [path(2, kind=first), path(2, kind=last)]
                # What hears the lesser kind has its sum ahead in the row, so it comes last.
                self.same(rounds(webs + [path(2, kind="p1")], 1)[1],
                          [[number, number] for number in self.behind_each([first, last, "p1"])])
        # A sum that is there at an earlier class counts more than a greater one behind.
        web = Web([("a", "x"), ("b", "x"), ("c", "y"), ("d", "z")], [("a", "c", "k", 1), ("b", "d", "k", 9)])
        self.same(rounds([web], 1)[1], [[1, 0, 2, 3]])

    def behind_each(self, kinds):
        """For each kind how many greater ones are in the list."""
        return [len({other for other in kinds if other > kind}) for kind in kinds]

    def test_kinds_that_one_web_alone_has(self):
        one = path(2, kind="j")
        other = path(2, kind="k")
        self.same(rounds([one, other], 1)[1], [[1, 1], [0, 0]])
        self.same(rounds([other, one], 1)[1], [[0, 0], [1, 1]])
        self.same(rounds([one], 1)[1], [[0, 0]])

    def test_ties_lead_to_their_own_web(self):
        one = Web([("a", "x"), ("b", "y")], [("a", "b", "k", 1)])
        other = Web([("b", "x"), ("a", "y")], [])
        self.same(rounds([one, other], 1)[1], [[1, 3], [0, 2]])

    def test_widths_are_added(self):
        one = path(2, width=2)
        self.same(settled([one, ring(3)]), [[0, 0], [0, 0, 0]])
        self.same(settled([path(2), ring(3)]), [[0, 0], [1, 1, 1]])
        self.same(settled([path(2, width=99), path(2, width=98)]), [[1, 1], [0, 0]])

    def test_the_same_web_twice_and_a_tuple(self):
        web = path(4)
        self.same(self.fresh(rounds, (web, web, web), 2)[1], [[0, 1, 1, 0]] * 3)
        self.same(self.fresh(settled, (web, web)), [[0, 1, 1, 0]] * 2)
        self.same([settling_round((web,)), class_count((web, web), 1)], [1, 2])

    def test_what_is_no_web(self):
        web = path(2)
        for value in ODD_VALUES + [[web], (web,)]:
            for call, more in [(rounds, (2,)), (settled, ()), (settling_round, ()), (class_count, (2,))]:
                self.refuses(BadNumber, 0, call, [value], *more)
                self.refuses(BadNumber, 1, call, [web, value, value], *more)
                self.refuses(BadNumber, 2, call, (web, web, value), *more)

    def test_great_webs(self):
        great = copies(path(5), 48)[0]
        self.same(settled([great, great, path(5)])[0], [0, 2, 1, 2, 0] * 48)
        long = Web([(f"p{at}", "x") for at in range(240)], [(f"p{at}", f"p{at + 1}", "k", 1) for at in range(239)])
        self.same([settling_round([long, long, long]), class_count([long], 119)], [119, 120])
        self.same(len(rounds([long, great, long], 16)), 17)
        names = [f"p{at}" for at in range(240)]
        ties = [(p, q, "k", 1 + (i + j) % 2) for i, p in enumerate(names) for j, q in enumerate(names[:i])]
        self.same(settled([Web([(name, "x") for name in names], ties)]), [[0] * 240])


if __name__ == "__main__":
    unittest.main()
