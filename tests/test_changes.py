"""Points 9.1 to 9.5."""

import itertools
import random
import unittest

from namelessly.changes import (
    mapped_colours, merged_kinds, moving_product, product, struck, taken_out, times, widened, with_tie, without_tie,
)
from namelessly.errors import BadName, BadNumber, BadTie, TooMany, UnknownName
from namelessly.kin import kin
from namelessly.rounds import class_count
from namelessly.webs import Web, beside, copies, within
from tests.support import (
    Checks, WORDS, kin_pairs, odd_values, path, plain_kin, plain_rounds, random_web, random_webs, ring, webs_that_are_not_kin,
)

KINDS = ("j", "k", "l")
TIE = Web([("a", "x"), ("b", "y")], [("a", "b", "k", 1)])
PAIRS = {pair: "".join(pair) for pair in itertools.product("xyz", repeat=2)}


def widths(web):
    """The dict from (one, other, kind), both ways round, to the widths of all ties."""
    found = {}
    for one, other, kind, width in web.ties():
        found[(one, other, kind)] = found[(other, one, kind)] = width
    return found


def colours(web):
    return [(p, web.colour(p)) for p in web.places()]


class Changes(Checks):

    def check(self, got, web, wanted):
        """The web told has the places of another one and just these widths."""
        self.same([colours(got), widths(got)], [colours(web), wanted])

    def told(self, call, web, *args):
        """What a call tells of a web, which it leaves as it is."""
        before = [colours(web), web.ties()]
        got = self.fresh(call, web, *args)
        self.same([colours(web), web.ties()], before)
        return got


class DeedsTest(Changes, unittest.TestCase):
    """Point 9.1."""

    def test_as_the_point_tells_it(self):
        source = random.Random(240)
        for web in random_webs(241, 60):
            for one, other, kind in itertools.product(web.places(), web.places(), KINDS):
                before = widths(web)
                also = {spot: width for spot, width in before.items() if spot not in ((one, other, kind), (other, one, kind))}
                width = web.width(one, other, kind)
                more = source.randint(-2, 3)
                if width > 0:
                    self.refuses(BadTie, 0, with_tie, web, one, other, kind, 1)
                    self.check(self.told(without_tie, web, one, other, kind), web, also)
                    if width + more < 1:
                        self.refuses(BadNumber, more, widened, web, one, other, kind, more)
                    else:
                        new = {(one, other, kind): width + more, (other, one, kind): width + more}
                        self.check(self.told(widened, web, one, other, kind, more), web, {**also, **new})
                    continue
                self.refuses(BadTie, 0, without_tie, web, one, other, kind)
                self.refuses(BadTie, 0, widened, web, one, other, kind, None)
                if one == other:
                    self.refuses(BadTie, 0, with_tie, web, one, other, kind, 1)
                else:
                    width = source.randint(1, 99)
                    new = {(one, other, kind): width, (other, one, kind): width}
                    self.check(self.told(with_tie, web, one, other, kind, width), web, {**before, **new})

    def test_strange_places(self):
        web = path(3)
        for value in odd_values() + ["d", "x", "k"]:
            for call, more in ((with_tie, ("K", 0)), (without_tie, (None,)), (widened, ("K", None))):
                self.refuses(UnknownName, value, call, web, value, "zz", *more)
                self.refuses(UnknownName, value, call, web, value, value, *more)
                self.refuses(UnknownName, value, call, web, "a", value, *more)

    def test_kinds_and_widths(self):
        web = path(3)
        for value in odd_values():
            self.refuses(BadTie, 0, with_tie, web, "a", "c", value, 1)
            self.refuses(BadTie, 0, without_tie, web, "a", "b", value)
            self.refuses(BadTie, 0, widened, web, "a", "b", value, 1)
            self.refuses(BadTie, 0, widened, web, "a", "b", value, None)
            if not isinstance(value, int) or isinstance(value, bool) or value < 1:
                self.refuses(BadTie, 0, with_tie, web, "a", "c", "k", value)
            if not isinstance(value, int) or isinstance(value, bool):
                self.refuses(BadNumber, value, widened, web, "a", "b", "k", value)
                self.refuses(BadTie, 0, widened, web, "a", "c", "k", value)
                self.refuses(BadTie, 0, widened, web, "a", "a", "k", value)
        for word in WORDS:
            self.same(with_tie(web, "c", "a", word, 7).width("a", "c", word), 7)

    def test_edges_of_widths(self):
        web = path(2, width=5)
        self.same([widened(web, "b", "a", "k", more).width("a", "b", "k") for more in (-4, 0, 94)], [1, 5, 99])
        for more in (-5, -6, -10 ** 39):
            self.refuses(BadNumber, more, widened, web, "a", "b", "k", more)
        self.same([widened(web, "a", "b", "k", 0) == web, without_tie(web, "a", "b", "k").ties()], [True, []])
        self.same(with_tie(web, "b", "a", "a", 1).ties(), [("a", "b", "a", 1), ("a", "b", "k", 5)])


class AllTest(Changes, unittest.TestCase):
    """Point 9.2."""

    def test_times_and_struck(self):
        source = random.Random(242)
        for web in random_webs(243, 60):
            for kind in KINDS:
                many = source.randint(1, 20)
                new = {spot: width * many if spot[2] == kind else width for spot, width in widths(web).items()}
                self.check(self.told(times, web, kind, many), web, new)
                new = {spot: width for spot, width in widths(web).items() if spot[2] != kind}
                self.check(self.told(struck, web, kind), web, new)
            self.same([times(web, "k", 1) == web, times(web, "j", 9) == web, struck(web, "j") == web], [True] * 3)

    def test_numbers(self):
        for value in odd_values() + [0, -1, -10 ** 39]:
            if not isinstance(value, int) or isinstance(value, bool) or value < 1:
                self.refuses(BadNumber, value, times, path(2), "k", value)
                self.refuses(BadNumber, value, times, path(2), "j", value)

    def test_merged_kinds(self):
        for web in random_webs(244, 60):
            for kind, into in itertools.product(KINDS, KINDS):
                new = {}
                for (one, other, old), width in widths(web).items():
                    spot = (one, other, into if old == kind else old)
                    new[spot] = new.get(spot, 0) + width
                self.check(self.told(merged_kinds, web, kind, into), web, new)
                if kind == into or kind not in web.kinds():
                    self.same(merged_kinds(web, kind, into) == web, True)
        for value in odd_values():
            self.refuses(BadName, value, merged_kinds, path(2), "k", value)
            self.refuses(BadName, value, merged_kinds, path(2), "j", value)

    def test_mapped_colours(self):
        source = random.Random(245)
        for web in random_webs(246, 60):
            new = {colour: source.choice("xyzuv") for colour in source.sample("xyzuv", source.randint(0, 5))}
            got = self.told(mapped_colours, web, new)
            self.same(colours(got), [(p, new.get(colour, colour)) for p, colour in colours(web)])
            self.same(got.ties(), web.ties())
        self.same(colours(mapped_colours(TIE, {"x": "y", "y": "x"})), [("a", "y"), ("b", "x")])

    def test_wrong_colours(self):
        for value in odd_values():
            self.refuses(BadName, value, mapped_colours, TIE, {"z": "Z", "y": value, "x": "x"})
            self.refuses(BadName, value, mapped_colours, TIE, {"p2": "", "p10": value})
            self.refuses(BadName, value, mapped_colours, TIE, {"zz": value})


class ProductTest(Changes, unittest.TestCase):
    """Point 9.3."""

    def pairs(self, one, other):
        return [(p, q) for p in one.places() for q in other.places()]

    def named(self, one, other, new):
        return {pair: f"p{at}" for at, pair in enumerate(self.pairs(one, other))}, [
            (f"p{at}", new[(one.colour(p), other.colour(q))]) for at, (p, q) in enumerate(self.pairs(one, other))]

    def test_as_the_point_tells_it(self):
        source = random.Random(247)
        for _ in range(60):
            one = random_web(source, most=4, kinds=("j", "k"))
            other = random_web(source, most=4, kinds=("k", "l"))
            new = {pair: source.choice("uvw") for pair in PAIRS}
            names, wanted = self.named(one, other, new)
            both, moving = {}, {}
            for (p, q), (r, s), kind in itertools.product(names, names, KINDS):
                spot = (names[(p, q)], names[(r, s)], kind)
                both[spot] = one.width(p, r, kind) * other.width(q, s, kind)
                moving[spot] = one.width(p, r, kind) if q == s else other.width(q, s, kind) if p == r else 0
            for call, found in ((product, both), (moving_product, moving)):
                got = self.fresh(call, one, other, new)
                self.same([colours(got), widths(got)], [wanted, {spot: width for spot, width in found.items() if width}])

    def test_kinds_that_one_of_them_has(self):
        one, other = path(2), path(2, kind="l")
        self.same(product(one, other, PAIRS).ties(), [])
        self.same(moving_product(one, other, PAIRS).ties(),
                  [("p0", "p1", "l", 1), ("p0", "p2", "k", 1), ("p1", "p3", "k", 1), ("p2", "p3", "l", 1)])

    def test_webs_stay(self):
        one, other = ring(3, width=2), path(3, width=3)
        before = [one.ties(), other.ties(), colours(one), colours(other)]
        product(one, other, PAIRS)
        moving_product(one, other, PAIRS)
        self.same([one.ties(), other.ties(), colours(one), colours(other)], before)

    def test_errors_in_their_sequence(self):
        one = Web([("a", "x"), ("b", "y"), ("c", "x")], [])
        other = Web([("a", "z"), ("b", "x")], [])
        full = {("x", "z"): "u", ("x", "x"): "u", ("y", "z"): "v", ("y", "x"): "v"}
        for call in (product, moving_product):
            self.refuses(UnknownName, ("x", "z"), call, one, other, {})
            self.refuses(UnknownName, ("x", "x"), call, one, other, {("x", "z"): None, ("z", "x"): "u"}, most_places=1)
            self.refuses(UnknownName, ("y", "x"), call, one, other, {pair: "V" for pair in full if pair != ("y", "x")})
            for value in odd_values():
                self.refuses(BadName, value, call, one, other, {**full, ("x", "z"): value, ("y", "x"): []}, most_places=1)
                self.refuses(BadName, value, call, one, other, {**full, ("y", "x"): value})
                told = self.fresh(call, one, other, {**full, ("z", "z"): value, ("x", "y"): value, ("z", "x"): value})
                self.same([told.colour(p) for p in told.places()], ["u", "u", "v", "v", "u", "u"])

    def test_cap(self):
        one, other = path(4), path(3)
        for call in (product, moving_product):
            for cap in (1, 11):
                with self.assertRaises(TooMany):
                    call(one, other, PAIRS, most_places=cap)
            self.same(len(call(one, other, PAIRS, most_places=12)), 12)
            great = copies(path(4), 60)[0]
            self.same(len(call(great, path(1), PAIRS)), 240)
            self.same(len(call(copies(path(4), 5)[0], copies(path(3), 4)[0], PAIRS)), 240)
            with self.assertRaises(TooMany):
                call(great, path(2), PAIRS)
            with self.assertRaises(TooMany):
                call(Web([(f"p{at}", "x") for at in range(241)], []), path(1), PAIRS)
            with self.assertRaises(TooMany):
                call(great, great, PAIRS)


class TakenOutTest(Changes, unittest.TestCase):
    """Point 9.4."""

    def test_as_the_point_tells_it(self):
        source = random.Random(248)
        webs = random_webs(249, 80) + random_webs(250, 40, colours="x", kinds=("k",))
        seen = set()
        for _ in range(80):
            some = [source.choice(webs) for _ in range(source.randint(1, 3))]
            told = plain_rounds(some, sum(len(web) for web in some))[-1]
            for number in range(class_count(some, 16)):
                left = [[p for p, mine in zip(web.places(), row) if mine != number] for web, row in zip(some, told)]
                if not all(left):
                    seen.add("none left")
                    self.refuses(BadNumber, number, taken_out, some, number)
                    continue
                seen.update(len(names) == len(web) for names, web in zip(left, some))
                got = self.fresh(taken_out, some, number)
                self.assertIs(type(got), list)
                for web, names, mine in zip(some, left, got):
                    self.same(mine, within(web, names))
        self.assertEqual(seen, {"none left", True, False})

    def test_numbers(self):
        webs = [TIE, path(3)]
        for value in odd_values() + [-1, -2]:
            if type(value) is not int or value not in (0, 1):
                self.refuses(BadNumber, value, taken_out, webs, value)
                self.refuses(BadNumber, value, taken_out, (TIE,), value)
        self.same(class_count(webs, 16), 4)
        self.refuses(BadNumber, 4, taken_out, webs, 4)
        self.same([web.places() for web in taken_out(webs, 3)], [["a"], ["a", "b", "c"]])
        self.same([web.places() for web in taken_out((path(5),), 1)], [["a", "b", "d", "e"]])
        self.refuses(BadNumber, 0, taken_out, [ring(3)], 0)
        self.refuses(BadNumber, 2, taken_out, [path(3), path(2, colour="y")], 2)


class KinTest(Checks, unittest.TestCase):
    """Point 9.5."""

    def test_one_pair(self):
        source = random.Random(251)
        for one, other in kin_pairs(252, 60):
            many = source.randint(1, 4)
            new = {"x": source.choice("xyz"), "y": source.choice("xyz")}
            for call, args in ((times, ("k", many)), (struck, ("k",)), (merged_kinds, ("k", "l")), (merged_kinds, ("l", "j")),
                               (mapped_colours, (new,))):
                self.assertTrue(plain_kin(call(one, *args), call(other, *args), 16))
            self.assertTrue(kin(copies(one, many)[0], copies(other, many)[0], None))
            for number in range(class_count([one, other], 16)):
                if class_count([one, other], 16) > 1:
                    self.assertTrue(kin(*taken_out([one, other], number), None))
                else:
                    self.refuses(BadNumber, number, taken_out, [one, other], number)

    def test_two_pairs(self):
        source = random.Random(253)
        pairs = kin_pairs(254, 60, most=6)
        new = {pair: source.choice("xy") for pair in PAIRS}
        beside_one_another = set()
        for one, other in pairs:
            one2, other2 = source.choice(pairs)
            for call in (product, moving_product):
                self.assertTrue(kin(call(one, one2, new), call(other, other2, new), None))
            if len(one) * len(other2) == len(other) * len(one2):
                beside_one_another.add(len(one) == len(other))
                self.assertTrue(kin(beside([one, one2])[0], beside([other, other2])[0], None))
        self.assertEqual(beside_one_another, {True, False})

    def test_beside_where_the_numbers_do_not_fit(self):
        # The two pairs share no class, so the shares of places are unlike.
        one, other = path(2), copies(path(2), 2)[0]
        one2, other2 = path(3), path(3)
        self.assertFalse(kin(beside([one, one2])[0], beside([other, other2])[0], None))
        self.assertTrue(kin(beside([one, one2])[0], beside([other, copies(path(3), 2)[0]])[0], None))

    def test_one_deed_may_part_webs(self):
        self.assertFalse(kin(ring(3), widened(ring(3), "a", "b", "k", 1), None))
        self.assertTrue(all(not kin(one, other, None) for one, other in webs_that_are_not_kin(255, 5)))


class GreatTest(Checks, unittest.TestCase):

    def test_great_webs(self):
        names = [f"p{at}" for at in range(240)]
        web = Web([(name, "x") for name in names], [(p, q, "k", 99) for p, q in itertools.combinations(names, 2)])
        self.same(times(web, "k", 99).width("p0", "p239", "k"), 9801)
        self.same([len(struck(web, "k").ties()), len(merged_kinds(web, "k", "l").ties())], [0, 28680])
        self.same(without_tie(web, "p239", "p0", "k").width("p0", "p239", "k"), 0)
        self.same(moving_product(web, path(1), PAIRS).ties(), web.ties())
        self.same([len(part) for part in taken_out([without_tie(web, "p239", "p0", "k")], 0)], [238])


if __name__ == "__main__":
    unittest.main()
