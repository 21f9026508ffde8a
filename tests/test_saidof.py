"""Points 7.4 to 7.6."""

import random
import unittest

from namelessly.errors import BadNumber, UnknownName
from namelessly.kin import alike, apart_at, kin, separating_round
from namelessly.rounds import settling_round
from namelessly.saidof import judge_saying, judge_saying_between, saying_between, saying_of, separating_saying
from namelessly.sayings import depth, holds_at
from namelessly.webs import Web, beside, copies
from tests.support import (
    Checks, kin_pairs, odd_values, path, plain_depth, plain_rounds, plain_truth, random_saying, random_webs, ring,
    webs_that_are_not_kin,
)

IS = ("is", "x")
TWO = (IS, ("some", 2, "k", 0))


def some_lists(seed, many):
    source = random.Random(seed)
    webs = random_webs(seed, many) + random_webs(seed + 1, many, colours="x", kinds=("k",))
    lists = [[source.choice(webs) for _ in range(source.randint(1, 3))] for _ in range(many)]
    return lists + [[path(5), path(4), ring(3)], [path(8)], [copies(path(4), 2)[0], path(8), path(7)]]


class SayingOfTest(Checks, unittest.TestCase):
    """Point 7.4."""

    def test_as_the_point_tells_it(self):
        for webs in some_lists(130, 40):
            last = settling_round(webs)
            told = plain_rounds(webs, last + 2)
            for k, classes in enumerate(told):
                for number, web in enumerate(webs):
                    for name, mine in zip(web.places(), classes[number]):
                        saying = saying_of(webs, (number, name), k)
                        self.assertLessEqual(depth(saying), k)
                        for also, numbers in zip(webs, classes):
                            wanted = [place for place, other in zip(also.places(), numbers) if other == mine]
                            self.same(holds_at(also, saying), wanted)

    def test_by_the_oracle_too(self):
        for webs in some_lists(132, 10):
            classes = plain_rounds(webs, 3)[3]
            saying = self.fresh(saying_of, webs, (0, webs[0].places()[-1]), 3)
            self.assertLessEqual(plain_depth(saying), 3)
            for web, numbers in zip(webs, classes):
                self.same([plain_truth(web, saying, place) for place in web.places()],
                          [number == classes[0][-1] for number in numbers])

    def test_beyond_the_settling_round(self):
        webs = [path(5), ring(3)]
        for k in (2, 3, 16):
            saying = saying_of(webs, (0, "b"), k)
            self.same([holds_at(web, saying) for web in webs], [["b", "d"], []])
            self.assertLessEqual(depth(saying), k)
        self.same([holds_at(web, saying_of(webs, (0, "b"), 1)) for web in webs], [["b", "c", "d"], ["a", "b", "c"]])
        self.same([holds_at(web, saying_of(webs, (1, "b"), 0)) for web in webs], [list("abcde"), list("abc")])

    def test_tuples_and_one_web_twice(self):
        web = path(3)
        saying = self.fresh(saying_of, (web, web, web), (2, "b"), 5)
        self.same(holds_at(web, saying), ["b"])
        self.same(holds_at(web, saying_of([web], (0, "c"), 1)), ["a", "c"])

    def test_the_other_webs_count(self):
        one, other = path(2), path(2, kind="j")
        self.same([holds_at(web, saying_of([one, other], (0, "a"), 1)) for web in (one, other)], [["a", "b"], []])
        self.same([holds_at(web, saying_of([one, other], (1, "a"), 1)) for web in (one, other)], [[], ["a", "b"]])
        self.same([holds_at(web, saying_of([one, other], (1, "a"), 0)) for web in (one, other)], [["a", "b"]] * 2)

    def test_errors(self):
        webs = [path(2), path(3)]
        for value in odd_values():
            if type(value) is not int or value not in (0, 1):
                self.refuses(BadNumber, value, saying_of, webs, (value, "zz"), 1)
            self.refuses(UnknownName, value, saying_of, webs, (0, value), 1)
            self.refuses(UnknownName, value, saying_of, webs, (1, value), 0)
        for number in (2, 3, -1, -2):
            self.refuses(BadNumber, number, saying_of, webs, (number, "a"), 1)
        self.refuses(UnknownName, "c", saying_of, webs, (0, "c"), 1)
        self.refuses(UnknownName, "d", saying_of, webs, (1, "d"), 1)
        self.refuses(BadNumber, 1, saying_of, webs[:1], (1, "a"), 1)


class SeparatingTest(Checks, unittest.TestCase):
    """Point 7.5."""

    def separates(self, one, other, saying):
        n, m = len(holds_at(one, saying)), len(holds_at(other, saying))
        return n * len(other) != m * len(one)

    def test_kin_webs(self):
        for one, other in kin_pairs(133, 80):
            self.same([separating_saying(one, other), separating_saying(other, one)], [None, None])

    def test_webs_that_are_not_kin(self):
        for one, other in webs_that_are_not_kin(134, 80):
            h = separating_round(one, other)
            for first, last in ((one, other), (other, one)):
                saying = self.fresh(separating_saying, first, last)
                self.assertTrue(self.separates(first, last, saying))
                self.same([judge_saying(first, last, saying, h), depth(saying)], [None, h])

    def test_parted_late(self):
        one = beside([path(4), ring(4)])[0]
        other = beside([ring(3), path(5)])[0]
        saying = separating_saying(one, other)
        self.same([depth(saying), judge_saying(one, other, saying, 3)], [3, None])
        one = Web([("a", "x"), ("b", "y")], [])
        other = Web([("a", "x"), ("b", "y"), ("c", "y")], [])
        self.same(depth(separating_saying(one, other)), 0)

    def test_sayings_between(self):
        webs = random_webs(136, 30)
        for one, other in list(zip(webs, webs[1:])) + kin_pairs(137, 30) + [(path(8), path(8)), (path(7), path(8))]:
            for p in one.places():
                for q in other.places():
                    h = apart_at(one, p, other, q)
                    saying = saying_between(one, p, other, q)
                    if h is None:
                        self.same(saying, None)
                        continue
                    self.same([plain_depth(saying), plain_truth(one, saying, p), plain_truth(other, saying, q)],
                              [h, True, False])
                    self.same(judge_saying_between(one, p, other, q, saying, h), None)
        self.same(holds_at(path(5), self.fresh(saying_between, path(5), "c", path(5), "b")), ["c"])

    def test_strange_places(self):
        for value in odd_values() + ["d", "x", "k"]:
            self.refuses(UnknownName, value, saying_between, path(3), value, path(4), "zz")
            self.refuses(UnknownName, value, saying_between, path(4), "d", path(3), value)

    def test_no_lesser_depth_separates(self):
        source = random.Random(138)
        for one, other in kin_pairs(139, 40, most=5) + webs_that_are_not_kin(140, 40, most=5):
            for _ in range(10):
                saying = random_saying(source)
                deep = depth(saying)
                if kin(one, other, deep):
                    self.assertFalse(self.separates(one, other, saying))
                for p in one.places():
                    for q in other.places():
                        if alike(one, p, other, q, deep):
                            self.same(p in holds_at(one, saying), q in holds_at(other, saying))


class JudgeTest(Checks, unittest.TestCase):
    """Point 7.6."""

    def test_judge_saying(self):
        self.same(self.fresh(judge_saying, path(3), path(4), TWO, 1), None)
        self.same(judge_saying(path(3), path(4), TWO, 9), None)
        self.same(judge_saying(path(3), path(4), TWO, 0), ("deep", 1))
        self.same(judge_saying(path(3), path(3), TWO + (("some", 1, "k", 1),), 1), ("deep", 2))
        self.same(self.fresh(judge_saying, path(3), path(4), (IS,), 1), ("same", 3, 4))
        self.same(judge_saying(path(3), copies(path(3), 2)[0], TWO, 1), ("same", 1, 2))
        self.same(judge_saying(path(3), ring(3), (("is", "q"),), 0), ("same", 0, 0))
        self.same(judge_saying(path(3), path(3), TWO, 0), ("deep", 1))

    def test_judge_saying_between(self):
        self.same(self.fresh(judge_saying_between, path(3), "b", path(4), "a", TWO, 1), None)
        self.same(judge_saying_between(path(3), "b", path(4), "a", TWO, 0), ("deep", 1))
        self.same(judge_saying_between(path(3), "b", path(4), "c", TWO, 1), ("same", True, True))
        self.same(judge_saying_between(path(3), "a", path(4), "d", TWO, 1), ("same", False, False))
        self.same(judge_saying_between(path(3), "a", path(4), "b", TWO, 1), ("same", False, True))
        self.same(judge_saying_between(path(3), "a", path(3), "b", TWO + (("not", 1),), 1), None)
        self.same(judge_saying_between(path(3), "a", path(3), "a", (IS,), 0), ("same", True, True))

    def test_form(self):
        for value in odd_values() + [
            [IS], IS, (IS, IS), (["is", "x"],), (("is", "X"),), (IS, ("not", 1)), (IS, ("not", False)), (IS, ("all", [0])),
            (IS, ("some", 0, "k", 0)), (IS, ("some", True, "k", 0)), (TWO,), {0: IS}, (IS, ("all", (0, 0))),
        ]:
            self.same(self.fresh(judge_saying, path(3), path(4), value, 0), ("form",))
            self.same(self.fresh(judge_saying_between, path(3), "a", path(4), "a", value, 0), ("form",))

    def test_strange_places(self):
        for value in odd_values() + ["e", "k"]:
            self.refuses(UnknownName, value, judge_saying_between, path(4), value, path(3), "zz", [], 0)
            self.refuses(UnknownName, value, judge_saying_between, path(4), "d", path(3), value, TWO, 0)
        self.refuses(UnknownName, "d", judge_saying_between, path(3), "d", path(4), "d", TWO, 1)

    def test_great_webs(self):
        great = copies(path(5), 48)[0]
        other = copies(path(4), 60)[0]
        self.same(judge_saying(great, path(5), TWO, 1), ("same", 144, 3))
        self.same(judge_saying(great, other, TWO, 1), None)
        self.same(judge_saying_between(great, "p239", other, "p0", TWO, 1), ("same", False, False))


if __name__ == "__main__":
    unittest.main()
