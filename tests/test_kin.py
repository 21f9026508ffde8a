"""Points 2.2 and 2.3."""

import unittest

from namelessly.errors import UnknownName
from namelessly.kin import alike, apart_at, kin, separating_round, shares
from namelessly.webs import Web, beside, copies, renamed
from tests.support import Checks, odd_values, path, plain_kin, plain_rounds, plain_shares, random_webs, ring

KS = list(range(7)) + [16]


def some_pairs():
    """Webs that callers make up, kin ones among them."""
    webs = random_webs(5, 60, colours="x", kinds=("k",)) + random_webs(6, 40)
    pairs = list(zip(webs, webs[1:]))
    pairs += [(web, copies(web, 2)[0]) for web in webs[::7]]
    pairs += [(path(2, width=2), ring(3)), (ring(3), ring(4)), (path(3), path(4)), (path(4), path(5)), (ring(5), path(5))]
    return pairs


class AlikeTest(Checks, unittest.TestCase):
    """Point 2.2."""

    def test_as_the_point_tells_it(self):
        for one, other in some_pairs():
            told = plain_rounds([one, other], 12)
            for i, p in enumerate(one.places()):
                for j, q in enumerate(other.places()):
                    same = [classes[0][i] == classes[1][j] for classes in told]
                    self.same([alike(one, p, other, q, k) for k in KS[:5]], same[:5])
                    self.same(alike(one, p, other, q, None), same[-1])
                    self.same(apart_at(one, p, other, q), same.index(False) if False in same else None)

    def test_one_web_at_both_sides(self):
        web = path(5)
        self.same([alike(web, "a", web, "e", None), alike(web, "a", web, "a", None)], [True, True])
        self.same([apart_at(web, "b", web, "c"), apart_at(web, "c", web, "b"), apart_at(web, "a", web, "b")], [2, 2, 1])
        self.same([alike(web, "b", web, "c", 1), alike(web, "b", web, "c", 2)], [True, False])
        self.same(apart_at(web, "d", web, "d"), None)

    def test_colours_are_told_at_once(self):
        web = Web([("a", "x"), ("b", "y")], [])
        self.same([apart_at(web, "a", web, "b"), alike(web, "a", web, "b", 0)], [0, False])

    def test_names_do_not_matter_but_say_who_is_meant(self):
        one = Web([("a", "x"), ("b", "x"), ("c", "x")], [("a", "b", "k", 1)])
        other = renamed(one, {"a": "c", "c": "a"})
        self.same([alike(one, "a", other, "c", None), alike(one, "a", other, "a", None)], [True, False])
        self.same([alike(one, "c", other, "a", None), apart_at(one, "c", other, "c")], [True, 1])

    def test_strange_places(self):
        one = path(2)
        other = renamed(path(2), {"a": "c"})
        for value in odd_values() + ["x", "k", "z"]:
            for k in (0, 3, None):
                self.refuses(UnknownName, value, alike, one, value, other, "zz", k)
                self.refuses(UnknownName, value, alike, one, "a", other, value, k)
            self.refuses(UnknownName, value, apart_at, one, value, other, "zz")
            self.refuses(UnknownName, value, apart_at, one, "a", other, value)
        self.refuses(UnknownName, "c", alike, one, "c", other, "a", None)
        self.refuses(UnknownName, "a", alike, one, "a", other, "a", None)
        self.refuses(UnknownName, "c", apart_at, one, "c", other, "a")


class KinTest(Checks, unittest.TestCase):
    """Point 2.3."""

    def test_as_the_point_tells_it(self):
        for one, other in some_pairs():
            kins = [plain_kin(one, other, k) for k in range(13)]
            for k in KS[:5]:
                self.same(self.fresh(shares, one, other, k), plain_shares(one, other, k))
                self.same([kin(one, other, k), kin(other, one, k)], [kins[k]] * 2)
            self.same([kin(one, other, None), kin(other, one, None)], [kins[-1]] * 2)
            least = kins.index(False) if False in kins else None
            self.same([separating_round(one, other), separating_round(other, one)], [least] * 2)
            if least:
                self.assertLessEqual(least, min(len(one), len(other)))

    def test_kin_ones(self):
        three = beside([ring(3), path(2, width=2)])[0]
        for one, other in [(ring(3), ring(5)), (path(2, width=2), ring(3)), (path(4), copies(path(4), 3)[0]),
                           (three, ring(4)), (path(1), Web([("a", "x"), ("b", "x")], [])), (path(3), path(3))]:
            self.same([kin(one, other, k) for k in KS + [None]], [True] * (len(KS) + 1))
            self.same([kin(other, one, None), separating_round(one, other), separating_round(other, one)],
                      [True, None, None])

    def test_shares(self):
        self.same(shares(path(4), copies(path(4), 3)[0], 1), [(2, 6), (2, 6)])
        self.same(shares(path(2), ring(3), 0), [(2, 3)])
        self.same(shares(path(2), ring(3), 1), [(2, 0), (0, 3)])
        self.same(shares(ring(3), path(2), 16), [(0, 2), (3, 0)])

    def test_unlike_numbers_of_places(self):
        both = beside([ring(3), path(2)])[0]
        self.same(shares(both, ring(3), 1), [(2, 0), (3, 3)])
        self.same([kin(both, ring(3), 0), kin(both, ring(3), 1), separating_round(ring(3), both)], [True, False, 1])
        one = Web([("a", "x"), ("b", "y")], [])
        other = Web([("a", "x"), ("b", "y"), ("c", "y")], [])
        self.same([separating_round(one, other), kin(one, other, 0), shares(one, other, 0)], [0, False, [(1, 1), (1, 2)]])

    def test_parted_late(self):
        one = Web([("a", "y")] + [(name, "x") for name in "bcde"],
                  [("a", "b", "k", 1), ("b", "c", "k", 1), ("c", "d", "k", 1), ("d", "e", "k", 1)])
        other = Web([("a", "y")] + [(name, "x") for name in "bcde"],
                    [("a", "b", "k", 1), ("b", "c", "k", 1), ("d", "e", "k", 2)])
        self.same([kin(one, other, 1), kin(one, other, 2), separating_round(one, other)], [True, False, 2])
        one = beside([path(4), ring(4)])[0]
        other = beside([ring(3), path(5)])[0]
        self.same([kin(one, other, k) for k in (0, 1, 2, 3, 4, None)], [True, True, True, False, False, False])
        self.same([separating_round(one, other), separating_round(other, one)], [3, 3])
        one = beside([path(7), ring(4)])[0]
        other = beside([path(8), ring(3)])[0]
        kins = [plain_kin(one, other, k) for k in range(12)]
        self.same([separating_round(one, other), kins.index(False)], [4, 4])

    def test_great_webs(self):
        great = copies(path(5), 48)[0]
        other = copies(path(4), 60)[0]
        self.same([kin(great, path(5), None), kin(great, other, None), separating_round(great, other)], [True, False, 1])
        self.same(shares(great, path(5), 16), [(96, 2), (48, 1), (96, 2)])
        self.same([alike(great, "p0", path(5), "e", None), apart_at(great, "p239", other, "p0")], [True, 4])


if __name__ == "__main__":
    unittest.main()
