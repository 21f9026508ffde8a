"""Points 10.1 to 10.6: the office itself."""

import random
import unittest

from namelessly.branches import clashes
from namelessly.errors import (
    BadDeed, BadName, BadTie, Clash, NoMoment, NothingDone, TooMany, TwiceTold, UnknownName,
)
from namelessly.office import Office
from namelessly.webs import Web
from tests.model import Model, all_of_model, all_told, asked, random_deed
from tests.support import Checks, WORDS, odd_values, path, strict

FIRST = [
    ("open", "g", "a", "x"), ("come", "g", "b", "x"), ("tie", "g", "a", "b", "k", 1), ("want", "g", "a", "first"),
    ("open", "h", "c", "y"),
]


def office_of(*deeds):
    office = Office()
    for deed in deeds:
        office.do(deed)
    return office


class OfficeChecks(Checks):

    def refused(self, office, kind, told, name, *args):
        """A call raises just this error, and the office stays as it is."""
        before = strict(all_told(office))
        twin = office.twin()
        if told == ():
            with self.assertRaises(kind) as caught:
                getattr(office, name)(*args)
            self.assertIs(type(caught.exception), kind)
            self.assertEqual(vars(caught.exception), {})
        else:
            self.refuses(kind, told[0], getattr(office, name), *args)
        self.assertEqual(strict(all_told(office)), before)
        self.assertTrue(office == twin)

    def refuses_deed(self, office, kind, *told_and_deed):
        self.refused(office, kind, told_and_deed[:-1], "do", told_and_deed[-1])


class DeedsTest(OfficeChecks, unittest.TestCase):
    """Points 10.2 and 10.3."""

    def test_each_deed(self):
        office = Office()
        web = lambda *pairs, ties=(): Web(list(pairs), list(ties))
        tie = ("a", "b", "k", 1)
        for number, (deed, wanted) in enumerate([
            (("open", "g", "a", "x"), [("g", web(("a", "x")), [])]),
            (("come", "g", "b", "y"), [("g", web(("a", "x"), ("b", "y")), [])]),
            (("tie", "g", "b", "a", "k", 1), [("g", web(("a", "x"), ("b", "y"), ties=[tie]), [])]),
            (("tie", "g", "a", "b", "k", 5), [("g", web(("a", "x"), ("b", "y"), ties=[("a", "b", "k", 5)]), [])]),
            (("tie", "g", "a", "b", "l", 2), [("g", web(("a", "x"), ("b", "y"), ties=[("a", "b", "k", 5), ("a", "b", "l", 2)]), [])]),
            (("untie", "g", "b", "a", "k"), [("g", web(("a", "x"), ("b", "y"), ties=[("a", "b", "l", 2)]), [])]),
            (("want", "g", "b", "q"), [("g", web(("a", "x"), ("b", "y"), ties=[("a", "b", "l", 2)]), [("b", "q")])]),
            (("want", "g", "a", "p"), [("g", web(("a", "x"), ("b", "y"), ties=[("a", "b", "l", 2)]), [("a", "p"), ("b", "q")])]),
            (("want", "g", "b", "r"), [("g", web(("a", "x"), ("b", "y"), ties=[("a", "b", "l", 2)]), [("a", "p"), ("b", "r")])]),
            (("colour", "g", "b", "z"), [("g", web(("a", "x"), ("b", "z"), ties=[("a", "b", "l", 2)]), [("a", "p"), ("b", "r")])]),
            (("unwant", "g", "a"), [("g", web(("a", "x"), ("b", "z"), ties=[("a", "b", "l", 2)]), [("b", "r")])]),
            (("go", "g", "b"), [("g", web(("a", "x")), [])]),
            (("open", "f", "b", "x"), [("f", web(("b", "x")), []), ("g", web(("a", "x")), [])]),
            (("want", "f", "b", "r"), [("f", web(("b", "x")), [("b", "r")]), ("g", web(("a", "x")), [])]),
            (("close", "f"), [("g", web(("a", "x")), [])]),
            (("open", "f", "b", "x"), [("f", web(("b", "x")), []), ("g", web(("a", "x")), [])]),
        ], 1):
            self.same([office.do(deed), office.present(), office.now(), office.moment(number)], [number, number, wanted, wanted])
            self.same([office.webs(), [(name, office.web(name), office.wanted(name)) for name in office.webs()]],
                      [[part[0] for part in wanted], wanted])
            self.same(office.log()[-1], (number - 1, deed))

    def test_letters_go_with_their_place_and_web(self):
        office = office_of(*FIRST, ("want", "g", "b", "last"), ("go", "g", "a"), ("come", "g", "a", "x"))
        self.same([office.wanted("g"), office.web("g").places(), office.web("g").ties()], [[("b", "last")], ["b", "a"], []])
        office = office_of(*FIRST, ("close", "g"), ("open", "g", "a", "x"))
        self.same(office.wanted("g"), [])

    def test_deeds_that_change_nothing(self):
        office = office_of(*FIRST)
        for deed in [("colour", "g", "a", "x"), ("tie", "g", "b", "a", "k", 1), ("want", "g", "a", "first"), ("unwant", "g", "b"),
                     ("unwant", "h", "c")]:
            before = office.now()
            number = len(office)
            self.same([office.do(deed), office.now(), office.log()[-1]], [number, before, (number - 1, deed)])

    def test_any_value_that_is_no_deed(self):
        for office in (Office(), office_of(*FIRST)):
            for value in odd_values() + [
                "close", ("close",), ("close", "g", "g"), ["close", "g"], ("Close", "g"), (None, "g"), (["close"], "g"),
                ("open", "n", "a"), ("open", "n", "a", "x", "x"), ("come", "g", "z"), ("go", "g"), ("colour", "g", "a"),
                ("tie", "g", "a", "b", "k"), ("tie", "g", "a", "b", "k", 1, 1), ("untie", "g", "a", "b"), ("want", "g", "a"),
                ("unwant", "g"), ("unwant", "g", "a", "x"), ("merge", 0), ("merge", "main"), ("undo",), (), (0, "g"),
                (True, "g"), ({}, "g"), ("", "g"), (Web([("a", "x")], []), "g"), {"close": "g"}, (("close", "g"),),
            ]:
                self.refuses_deed(office, BadDeed, value)

    def test_open(self):
        office = office_of(*FIRST)
        for value in odd_values():
            self.refuses_deed(office, BadName, value, ("open", value, None, None))
            self.refuses_deed(office, BadName, value, ("open", "n", value, None))
            self.refuses_deed(office, BadName, value, ("open", "n", "a", value))
            self.refuses_deed(office, TwiceTold, "g", ("open", "g", value, value))
        for word in WORDS:
            self.same(office_of(("open", word, word, word)).now(), [(word, Web([(word, word)], []), [])])

    def test_names_of_webs(self):
        office = office_of(*FIRST)
        for value in odd_values() + ["n", "a", "x", "main"]:
            for deed in [("close", value), ("come", value, None, None), ("go", value, None), ("colour", value, None, None),
                         ("tie", value, None, None, None, None), ("untie", value, None, None, None), ("want", value, [], []),
                         ("unwant", value, {})]:
                self.refuses_deed(office, UnknownName, value, deed)
                self.refuses_deed(Office(), UnknownName, value, deed)

    def test_come(self):
        office = office_of(*FIRST)
        for value in odd_values():
            self.refuses_deed(office, BadName, value, ("come", "g", value, None))
            self.refuses_deed(office, TwiceTold, "b", ("come", "g", "b", value))
            self.refuses_deed(office, BadName, value, ("come", "g", "c", value))
        self.same(office.do(("come", "g", "c", "x")), 6)

    def test_places(self):
        office = office_of(*FIRST)
        for value in odd_values() + ["c", "x", "k", "g"]:
            for deed in [("go", "g", value), ("colour", "g", value, None), ("tie", "g", value, value, None, None),
                         ("tie", "g", "a", value, None, None), ("untie", "g", value, None, None), ("untie", "g", "a", value, "k"),
                         ("want", "g", value, None), ("unwant", "g", value)]:
                self.refuses_deed(office, UnknownName, value, deed)

    def test_go(self):
        office = office_of(*FIRST)
        self.refuses_deed(office, BadDeed, ("go", "h", "c"))
        self.refuses_deed(office, UnknownName, "a", ("go", "h", "a"))
        office.do(("go", "g", "a"))
        self.refuses_deed(office, BadDeed, ("go", "g", "b"))

    def test_colours_and_letters(self):
        office = office_of(*FIRST)
        for value in odd_values():
            self.refuses_deed(office, BadName, value, ("colour", "g", "a", value))
            self.refuses_deed(office, BadName, value, ("want", "g", "a", value))

    def test_tie(self):
        office = office_of(*FIRST)
        for value in odd_values():
            self.refuses_deed(office, BadTie, 0, ("tie", "g", "a", "a", value, value))
            self.refuses_deed(office, BadName, value, ("tie", "g", "a", "b", value, value))
            if type(value) is not int or value < 1:
                self.refuses_deed(office, BadTie, 0, ("tie", "g", "a", "b", "k", value))
        for value in (0, -1, -10 ** 39, True, False):
            self.refuses_deed(office, BadTie, 0, ("tie", "g", "b", "a", "l", value))

    def test_untie(self):
        office = office_of(*FIRST)
        for value in odd_values() + ["l", "a", "K"]:
            self.refuses_deed(office, UnknownName, value, ("untie", "g", "a", "b", value))
            self.refuses_deed(office, UnknownName, value, ("untie", "g", "a", "a", value))
        self.refuses_deed(office, UnknownName, "k", ("untie", "g", "b", "b", "k"))


class LimitsTest(OfficeChecks, unittest.TestCase):
    """Point 10.3: TooMany."""

    def test_webs(self):
        office = office_of(*[("open", name, "a", "x") for name in "abcdef"])
        self.refuses_deed(office, TooMany, ("open", "g", "a", "x"))
        self.refuses_deed(office, BadName, None, ("open", "g", "a", None))
        self.refuses_deed(office, TwiceTold, "f", ("open", "f", "a", "x"))
        self.same([office.do(("come", "f", "b", "x")), office.do(("close", "a")), office.do(("open", "g", "a", "x"))], [7, 8, 9])

    def test_places(self):
        office = office_of(("open", "g", "p0", "x"), *[("come", "g", f"p{at}", "x") for at in range(1, 12)])
        self.same(len(office.web("g")), 12)
        self.refuses_deed(office, TooMany, ("come", "g", "p12", "x"))
        self.refuses_deed(office, TwiceTold, "p11", ("come", "g", "p11", "x"))
        self.refuses_deed(office, BadName, "X", ("come", "g", "p12", "X"))
        self.same([office.do(("open", "h", "a", "x")), office.do(("go", "g", "p3")), office.do(("come", "g", "p12", "x"))], [13, 14, 15])

    def test_moments(self):
        office = office_of(*FIRST)
        while len(office) < 200:
            office.do(("colour", "g", "a", "x"))
        self.same([office.present(), len(office.log())], [199, 199])
        for deed in [("colour", "g", "a", "x"), ("unwant", "g", "b"), ("open", "n", "a", "x"), ("close", "g")]:
            self.refuses_deed(office, TooMany, deed)
        self.refuses_deed(office, BadDeed, ("close",))
        self.refuses_deed(office, UnknownName, "n", ("close", "n"))
        self.refuses_deed(office, BadTie, 0, ("tie", "g", "a", "b", "k", 0))
        self.same([office.undo(), office.undo()], [198, 197])
        self.refuses_deed(office, TooMany, ("close", "g"))
        self.same([office.redo(), office.branch("side"), office.go("side"), office.trail("side")], [198, None, 198, [198]])
        self.refuses_deed(office, TooMany, ("close", "g"))


class MomentsTest(OfficeChecks, unittest.TestCase):
    """Points 10.1, 10.4 and 10.5."""

    def test_a_new_office(self):
        office = Office()
        self.same(all_told(office), [[[]], [], [], ["main"], [("main", [0], 0)], "main", 0, 1, [], []])

    def test_elder_moments_stay(self):
        office = office_of(*FIRST)
        told = [office.moment(number) for number in range(6)]
        for deed in [("come", "g", "c", "x"), ("go", "g", "a"), ("close", "g"), ("close", "h")]:
            office.do(deed)
        self.same([office.moment(number) for number in range(6)], told)
        self.same(office.moment(4), [("g", Web([("a", "x"), ("b", "x")], [("a", "b", "k", 1)]), [("a", "first")])])

    def test_strange_numbers_and_names(self):
        office = office_of(*FIRST)
        for value in odd_values() + [-1, -6, 6, 7, 10 ** 39, "0", "main", [0]]:
            if type(value) is not int or not 0 <= value < 6:
                self.refused(office, NoMoment, (value,), "moment", value)
            if not isinstance(value, str) or value != "main":
                for name in ("go", "trail", "mark", "merge"):
                    self.refused(office, UnknownName, (value,), name, value)
            self.refused(office, UnknownName, (value,), "web", value)
            self.refused(office, UnknownName, (value,), "wanted", value)
        office.undo()
        for name in ("web", "wanted"):
            self.refused(office, UnknownName, ("h",), name, "h")

    def test_lists_that_are_told(self):
        office = office_of(*FIRST)
        before = strict(all_told(office))
        for call in (office.webs, office.now, office.log, office.branches, lambda: office.wanted("g"),
                     lambda: office.moment(4), lambda: office.trail("main")):
            self.fresh(call)
        office.moment(4)[0][2].clear()
        office.now()[0][2].append(("b", "z"))
        self.assertEqual(strict(all_told(office)), before)

    def test_undo_and_redo(self):
        office = office_of(*FIRST)
        self.refused(office, NothingDone, (), "redo")
        self.same([office.undo() for _ in range(5)], [4, 3, 2, 1, 0])
        self.refused(office, NothingDone, (), "undo")
        self.same([office.redo(), office.redo(), office.mark("main"), office.trail("main")], [1, 2, 2, [0, 1, 2, 3, 4, 5]])
        self.same([office.do(("colour", "g", "a", "y")), office.trail("main"), office.mark("main")], [6, [0, 1, 2, 6], 3])
        self.refused(office, NothingDone, (), "redo")
        self.same([office.log()[-1], len(office), office.undo()], [(2, ("colour", "g", "a", "y")), 7, 2])
        self.refused(Office(), NothingDone, (), "undo")
        self.refused(Office(), NothingDone, (), "redo")

    def test_branches(self):
        office = office_of(*FIRST)
        office.undo()
        self.same([office.branch("side"), office.here(), office.branches(), office.trail("side"), office.mark("side")],
                  [None, "main", ["main", "side"], [4], 0])
        self.same([office.go("side"), office.here(), office.do(("close", "g")), office.do(("open", "n", "a", "x"))], [4, "side", 6, 7])
        self.same([office.trail("side"), office.mark("side"), office.trail("main"), office.mark("main")],
                  [[4, 6, 7], 2, [0, 1, 2, 3, 4, 5], 4])
        self.same([office.undo(), office.undo()], [6, 4])
        self.refused(office, NothingDone, (), "undo")
        self.same([office.go("main"), office.redo(), office.go("side"), office.redo(), office.go("side")], [4, 5, 4, 6, 6])
        self.same([office.mark("main"), office.mark("side"), office.present(), office.webs()], [5, 1, 6, []])

    def test_new_branches(self):
        office = office_of(*FIRST)
        for value in odd_values() + ["main"]:
            self.refused(office, BadName, (value,), "branch", value)
        for name in ("z", "side", "a", "m", "p10"):
            office.branch(name)
            self.refused(office, BadName, (name,), "branch", name)
        self.same(office.branches(), ["main", "z", "side", "a", "m", "p10"])
        self.refused(office, TooMany, (), "branch", "n")
        self.refused(office, BadName, ("main",), "branch", "main")
        self.refused(office, BadName, ("",), "branch", "")

    def test_as_the_points_tell_it(self):
        seen = set()
        for seed in range(40):
            seen |= self.play(random.Random(seed), 120)
        for name, kinds in [("do", {BadDeed, BadName, BadTie, TwiceTold, UnknownName}), ("undo", {NothingDone}),
                            ("redo", {NothingDone}), ("branch", {BadName}), ("go", {UnknownName}), ("merge", {Clash, UnknownName})]:
            self.assertIn((name, "told"), seen)
            for kind in kinds:
                self.assertIn((name, kind), seen)

    def play(self, source, steps):
        """Does the same at random in an office and in a model of it."""
        office, model, odd, seen = Office(), Model(), odd_values(), set()
        for _ in range(steps):
            name = source.choices(["do", "undo", "redo", "branch", "go", "merge"], [70, 8, 4, 3, 7, 8])[0]
            args = ()
            if name == "do":
                args = (random_deed(source, model.moments[model.present()], odd),)
            elif name == "branch":
                args = (source.choice(["one", "two", "six", "main", source.choice(odd)]),)
            elif name in ("go", "merge"):
                args = (source.choice(list(model.trails) * 4 + [source.choice(odd)]),)
            wanted = model.call(name, *args)
            self.same(asked(office, name, *args), wanted)
            seen.add((name, "told" if wanted[0] == "told" else wanted[1]))
        self.same(all_told(office), all_of_model(model))
        return seen


class EqualTest(OfficeChecks, unittest.TestCase):

    def test_equal(self):
        for deeds in ([], FIRST):
            self.assertTrue(office_of(*deeds) == office_of(*deeds))
            self.assertTrue(office_of(*deeds).twin() == office_of(*deeds))
        for value in odd_values() + [FIRST, Office]:
            self.assertFalse(Office() == value)
            self.assertTrue(Office() != value)

    def test_each_thing_that_counts(self):
        def made(change):
            office = office_of(*FIRST)
            office.branch("b")
            office.branch("c")
            change(office)
            return office
        same = made(lambda office: None)
        self.assertTrue(same == made(lambda office: (office.undo(), office.redo(), office.go("b"), office.go("main"))))
        for change in [
            lambda office: office.do(("colour", "g", "a", "x")), lambda office: office.undo(), lambda office: office.go("b"),
            lambda office: office.branch("d"),
        ]:
            self.assertFalse(same == made(change))
            self.assertFalse(made(change) == same)
            self.assertTrue(made(change) == made(change))

    def test_order_of_branches_trails_and_logs(self):
        one, other = office_of(*FIRST), office_of(*FIRST)
        one.branch("b"), one.branch("c"), other.branch("c"), other.branch("b")
        self.assertFalse(one == other)
        # The same moments and marks, but of another trail.
        one, other = office_of(("open", "g", "a", "x")), office_of(("open", "g", "a", "x"))
        one.undo(), one.do(("open", "g", "a", "x")), other.do(("colour", "g", "a", "x"))
        self.assertFalse(one == other)
        # The same moments by other deeds.
        one = office_of(("open", "g", "a", "x"), ("colour", "g", "a", "x"))
        self.assertFalse(one == office_of(("open", "g", "a", "x"), ("unwant", "g", "a")))
        # The same deeds, of other moments.
        one, other = office_of(("open", "g", "a", "x"), ("unwant", "g", "a")), office_of(("open", "g", "a", "x"), ("unwant", "g", "a"))
        one.branch("b"), one.undo(), one.do(("unwant", "g", "a")), other.branch("b"), other.do(("unwant", "g", "a"))
        self.assertFalse(one == other)

    def test_twins_go_their_own_way(self):
        office = office_of(*FIRST)
        office.branch("side")
        before = strict(all_told(office))
        twin = office.twin()
        twin.do(("close", "g")), twin.go("side"), twin.branch("n"), twin.do(("close", "h"))
        self.assertEqual(strict(all_told(office)), before)
        self.assertFalse(office == twin)
        twin = office.twin()
        office.do(("close", "g"))
        self.assertEqual(strict(all_told(twin)), before)
        self.same([twin.do(("close", "g")), twin == office], [6, True])


class MergeTest(OfficeChecks, unittest.TestCase):
    """Point 10.6."""

    BASE = FIRST + [("come", "h", "d", "y"), ("tie", "h", "c", "d", "l", 2)]

    def sides(self, mine, theirs, base=None):
        """An office that stands in main after some deeds, with a branch side after others."""
        office = office_of(*(self.BASE if base is None else base))
        office.branch("side")
        office.go("side")
        for deed in theirs:
            office.do(deed)
        office.go("main")
        for deed in mine:
            office.do(deed)
        return office

    def clash(self, mine, theirs, spots, base=None):
        for first, last in ((mine, theirs), (theirs, mine)):
            office = self.sides(first, last, base)
            self.refused(office, Clash, (tuple(spots),), "merge", "side")
            there = office.trail("side")[office.mark("side")]
            self.same(self.fresh(clashes, office, office.present(), there), list(spots))
            self.same(clashes(office, there, office.present()), list(spots))

    def merged(self, mine, theirs, wanted, base=None):
        for first, last in ((mine, theirs), (theirs, mine)):
            office = self.sides(first, last, base)
            number = len(office)
            there = office.trail("side")[office.mark("side")]
            here, trail = office.present(), office.trail("main")
            self.same(clashes(office, here, there), [])
            self.same([office.merge("side"), office.present(), office.log()[-1]], [number, number, (here, ("merge", there))])
            self.same([office.trail("main"), office.mark("main")], [trail + [number], len(trail)])
            self.same(sorted_places(office.now()), sorted_places(wanted))

    def test_spots_of_either_side(self):
        g = Web([("a", "x"), ("b", "x")], [("a", "b", "k", 1)])
        h = Web([("c", "y"), ("d", "y")], [("c", "d", "l", 2)])
        first = [("a", "first")]
        for deed, wanted in [
            (("colour", "g", "b", "z"), [("g", Web([("a", "x"), ("b", "z")], g.ties()), first), ("h", h, [])]),
            (("tie", "g", "a", "b", "k", 3), [("g", path(2, width=3), first), ("h", h, [])]),
            (("tie", "h", "c", "d", "k", 1), [("g", g, first), ("h", Web([("c", "y"), ("d", "y")], h.ties() + [("c", "d", "k", 1)]), [])]),
            (("untie", "g", "a", "b", "k"), [("g", Web([("a", "x"), ("b", "x")], []), first), ("h", h, [])]),
            (("want", "g", "b", "q"), [("g", g, [("a", "first"), ("b", "q")]), ("h", h, [])]),
            (("want", "g", "a", "q"), [("g", g, [("a", "q")]), ("h", h, [])]),
            (("unwant", "g", "a"), [("g", g, []), ("h", h, [])]),
            (("come", "g", "e", "x"), [("g", Web([("a", "x"), ("b", "x"), ("e", "x")], g.ties()), first), ("h", h, [])]),
            (("go", "g", "a"), [("g", Web([("b", "x")], []), []), ("h", h, [])]),
            (("close", "h"), [("g", g, first)]),
            (("open", "n", "a", "x"), [("g", g, first), ("h", h, []), ("n", Web([("a", "x")], []), [])]),
            (("unwant", "h", "c"), [("g", g, first), ("h", h, [])]),
        ]:
            for other in [("unwant", "h", "d") if deed[0] != "close" else ("unwant", "g", "b"), deed]:
                self.merged([deed], [other], wanted)

    def test_both_sides(self):
        self.merged([("colour", "g", "a", "z"), ("want", "h", "c", "q")], [("colour", "g", "b", "u"), ("tie", "g", "a", "b", "k", 9)], [
            ("g", Web([("a", "z"), ("b", "u")], [("a", "b", "k", 9)]), [("a", "first")]),
            ("h", Web([("c", "y"), ("d", "y")], [("c", "d", "l", 2)]), [("c", "q")]),
        ])
        # A web that both open, with other places.
        self.merged([("open", "n", "a", "x"), ("want", "n", "a", "q")], [("open", "n", "b", "x")],
                    [("n", Web([("a", "x"), ("b", "x")], []), [("a", "q")])], [])
        # Gone and come again is as if nothing were.
        self.merged([("go", "g", "a"), ("come", "g", "a", "x"), ("tie", "g", "a", "b", "k", 1), ("want", "g", "a", "first")],
                    [("colour", "g", "a", "z")], [("g", Web([("a", "z"), ("b", "x")], [("a", "b", "k", 1)]), [("a", "first")])],
                    FIRST[:4])

    def test_first_kind_of_clash(self):
        self.clash([("colour", "g", "a", "z")], [("colour", "g", "a", "u")], [("place", "g", "a")])
        self.clash([("go", "g", "a")], [("colour", "g", "a", "u")], [("place", "g", "a")])
        self.clash([("tie", "g", "a", "b", "k", 2)], [("tie", "g", "b", "a", "k", 3)], [("tie", "g", "a", "b", "k")])
        self.clash([("tie", "g", "b", "a", "k", 2)], [("untie", "g", "a", "b", "k")], [("tie", "g", "a", "b", "k")])
        self.clash([("tie", "g", "b", "a", "n", 2)], [("tie", "g", "b", "a", "n", 1)], [("tie", "g", "a", "b", "n")])
        self.clash([("want", "g", "a", "q")], [("want", "g", "a", "r")], [("want", "g", "a")])
        self.clash([("want", "g", "b", "q")], [("want", "g", "b", "r")], [("want", "g", "b")])
        self.clash([("want", "g", "a", "q")], [("unwant", "g", "a")], [("want", "g", "a")])
        self.clash([("open", "n", "a", "x")], [("open", "n", "a", "y")], [("place", "n", "a")])
        self.clash([("come", "g", "e", "x")], [("come", "g", "e", "y")], [("place", "g", "e")])
        self.clash(
            [("colour", "h", "d", "u"), ("colour", "g", "a", "z"), ("want", "g", "b", "q"), ("want", "g", "a", "q"),
             ("tie", "h", "c", "d", "l", 3), ("tie", "g", "a", "b", "k", 3), ("tie", "g", "a", "b", "j", 3), ("colour", "g", "b", "z")],
            [("colour", "h", "d", "v"), ("colour", "g", "a", "u"), ("want", "g", "b", "r"), ("want", "g", "a", "r"),
             ("tie", "h", "c", "d", "l", 4), ("tie", "g", "a", "b", "k", 4), ("tie", "g", "a", "b", "j", 4), ("colour", "g", "b", "x")],
            [("place", "g", "a"), ("place", "h", "d"), ("tie", "g", "a", "b", "j"), ("tie", "g", "a", "b", "k"),
             ("tie", "h", "c", "d", "l"), ("want", "g", "a"), ("want", "g", "b")])

    def test_first_kind_hides_the_second_one(self):
        self.clash([("close", "h"), ("colour", "g", "a", "z")], [("come", "h", "e", "x"), ("colour", "g", "a", "u")],
                   [("place", "g", "a")])

    def test_second_kind_of_clash(self):
        # A place without its web.
        self.clash([("close", "h")], [("come", "h", "e", "x")], [("web", "h")])
        # A tie and a wanted letter without their places; each place is told once.
        self.clash([("close", "h")], [("tie", "h", "c", "d", "k", 1), ("tie", "h", "c", "d", "j", 1), ("want", "h", "d", "q")],
                   [("place", "h", "c"), ("place", "h", "d")])
        self.clash([("go", "h", "c")], [("tie", "h", "c", "d", "k", 1)], [("place", "h", "c")])
        self.clash([("go", "h", "c")], [("want", "h", "c", "q")], [("place", "h", "c")])
        self.clash([("close", "h")], [("come", "h", "e", "x"), ("tie", "h", "e", "c", "k", 1)], [("web", "h"), ("place", "h", "c")])
        # A web without a place.
        self.clash([("go", "h", "c")], [("go", "h", "d")], [("web", "h")])
        self.clash([("go", "h", "c"), ("go", "g", "a")], [("go", "h", "d"), ("go", "g", "b")], [("web", "g"), ("web", "h")])
        self.clash([("close", "h")], [("colour", "h", "c", "z")], [("place", "h", "c")])

    def test_order_of_places(self):
        office = self.sides([("come", "g", "e", "x"), ("go", "g", "a"), ("come", "g", "a", "x"), ("want", "g", "a", "first"),
                             ("tie", "g", "a", "b", "k", 1)], [("come", "g", "f", "x"), ("come", "g", "d", "x")])
        office.merge("side")
        self.same(office.web("g").places(), ["b", "e", "a", "f", "d"])
        office = self.sides([("come", "g", "f", "x"), ("come", "g", "d", "x")], [("come", "g", "e", "x"), ("come", "g", "d", "x"), ("go", "g", "b")])
        office.merge("side")
        self.same(office.web("g").places(), ["a", "f", "d", "e"])

    def test_merges_that_do_nothing(self):
        for office in (self.sides([], []), self.sides([("close", "g")], []), self.sides([("close", "g")], [("close", "h")])):
            before = strict(all_told(office))
            self.same(office.merge("main"), office.present())
            if office.trail("side")[-1] == len(self.BASE):
                self.same(office.merge("side"), office.present())
            self.assertEqual(strict(all_told(office)), before)
        office = self.sides([("close", "g")], [("close", "h")])
        number = office.merge("side")
        self.same([office.merge("side"), office.merge("main"), len(office)], [number, number, number + 1])
        office.undo()
        # What is undone is no elder, so a further moment is made.
        self.same([office.merge("side"), office.trail("main")[-2:]], [number + 1, [number - 1, number + 1]])

    def test_one_moment_that_is_an_elder_of_the_other(self):
        office = self.sides([], [("colour", "g", "a", "z"), ("come", "h", "e", "x")])
        number = len(office)
        self.same([office.merge("side"), office.log()[-1]], [number, (len(self.BASE), ("merge", number - 1))])
        self.same(office.now(), office.moment(number - 1))
        self.same([office.go("side"), office.merge("main"), len(office)], [number - 1, number + 1, number + 2])
        self.same([office.undo(), office.present()], [number - 1, number - 1])

    def test_merges_of_merges(self):
        office = self.sides([("colour", "g", "a", "z")], [("colour", "g", "b", "u")])
        number = office.merge("side")
        office.do(("want", "h", "c", "q"))
        office.go("side")
        office.do(("want", "h", "d", "r"))
        self.same([office.merge("main"), office.wanted("h"), office.web("g").colour("a")], [number + 3, [("c", "q"), ("d", "r")], "z"])
        office.do(("colour", "g", "a", "u"))
        office.go("main")
        office.do(("colour", "g", "a", "v"))
        self.refused(office, Clash, ((("place", "g", "a"),),), "merge", "side")

    def test_too_many(self):
        names = [f"p{at}" for at in range(7)]
        base = [("open", "g", "a", "x")]
        office = self.sides([("open", name, "a", "x") for name in names[:3]], [("open", name, "a", "x") for name in names[3:6]], base)
        self.refused(office, TooMany, (), "merge", "side")
        office.undo()
        self.same([office.merge("side"), len(office.webs())], [8, 6])
        office = self.sides([("come", "g", name, "x") for name in names[:6]], [("come", "g", name + "0", "x") for name in names[1:7]], base)
        self.refused(office, TooMany, (), "merge", "side")
        office.undo()
        self.same([office.merge("side"), len(office.web("g"))], [14, 12])

    def test_clash_ahead_of_too_many(self):
        office = self.sides([("colour", "g", "a", "z")], [("colour", "g", "a", "u")])
        while len(office) < 200:
            office.do(("unwant", "g", "b"))
        self.refused(office, Clash, ((("place", "g", "a"),),), "merge", "side")
        self.same(clashes(office, office.present(), office.trail("side")[-1]), [("place", "g", "a")])
        office = self.sides([("colour", "g", "a", "z")], [("colour", "g", "b", "u")])
        while len(office) < 200:
            office.do(("unwant", "g", "b"))
        self.refused(office, TooMany, (), "merge", "side")
        self.same(clashes(office, office.present(), office.trail("side")[-1]), [])
        self.same([office.merge("main"), len(office)], [199, 200])


def sorted_places(told):
    """What a moment tells, whatever the order of the places."""
    return [(name, sorted((p, web.colour(p)) for p in web.places()),
             sorted((min(one, other), max(one, other), kind, width) for one, other, kind, width in web.ties()), sorted(wanted))
            for name, web, wanted in told]


if __name__ == "__main__":
    unittest.main()
