"""Points 10.5 to 10.7: elders, lines, clashes and attempts."""

import random
import unittest

from namelessly.branches import attempt, clashes, come_of, elders, last_common, line_to, tried
from namelessly.errors import (
    BadDeed, BadName, BadTie, Clash, NoMoment, NothingDone, TooMany, TwiceTold, UnknownName,
)
from namelessly.office import Office
from tests.model import FIRST, all_of_model, all_told, asked, hall, played, random_deed
from tests.support import Checks, odd_values, strict


class Halt(BaseException):
    """Something that is no Exception."""


class EldersTest(Checks, unittest.TestCase):
    """Point 10.5."""

    def test_as_the_points_tell_it(self):
        kinds = set()
        for seed in range(300, 325):
            office, model = played(seed)
            many = len(office)
            for number in range(many):
                self.same(self.fresh(elders, office, number), sorted(model.elders(number)))
                self.same(self.fresh(come_of, office, number), [also for also in range(many) if number in model.elders(also)])
                self.same(self.fresh(line_to, office, number), self.line(model, number))
            source = random.Random(seed)
            for _ in range(60):
                one, other = source.randrange(many), source.randrange(many)
                self.same(last_common(office, one, other), model.last_common(one, other))
                wanted = model.clashes(one, other)[0]
                kinds.update(spot[0] for spot in wanted)
                self.same(self.fresh(clashes, office, one, other), wanted)
            self.same(all_told(office), all_of_model(model))
        self.assertEqual(kinds, {"web", "place", "tie", "want"})

    def line(self, model, number):
        told = []
        while number:
            number, deed = model.entries[number - 1]
            told.insert(0, deed)
        return told

    def test_examples(self):
        office = hall()
        self.same([elders(office, 0), elders(office, 5), elders(office, 6), elders(office, 7)],
                  [[0], [0, 1, 2, 3, 4, 5], [0, 1, 2, 3, 4, 6], list(range(8))])
        self.same([come_of(office, 0), come_of(office, 4), come_of(office, 5), come_of(office, 7)],
                  [list(range(8)), [4, 5, 6, 7], [5, 7], [7]])
        self.same([last_common(office, 5, 6), last_common(office, 5, 7), last_common(office, 3, 3), last_common(office, 0, 7)], [4, 5, 3, 0])
        self.same([line_to(office, 0), line_to(office, 7)], [[], FIRST + [("come", "g", "c", "x"), ("merge", 5)]])

    def test_strange_numbers(self):
        office = hall()
        for value in odd_values() + [-1, 8, 10 ** 39, "0", "main"]:
            if type(value) is int and 0 <= value < 8:
                continue
            for call in (elders, come_of, line_to):
                self.refuses(NoMoment, value, call, office, value)
            for call in (last_common, clashes):
                self.refuses(NoMoment, value, call, office, value, "zz")
                self.refuses(NoMoment, value, call, office, value, value)
                self.refuses(NoMoment, value, call, office, 7, value)

    def test_clashes_do_not_look_at_limits(self):
        office = Office()
        for name in "abcd":
            office.do(("open", name, "a", "x"))
        office.branch("side")
        office.do(("open", "e", "a", "x")), office.do(("open", "f", "a", "x"))
        office.go("side")
        office.do(("open", "m", "a", "x")), office.do(("open", "n", "a", "x"))
        self.same(clashes(office, 8, 6), [])
        with self.assertRaises(TooMany):
            office.merge("main")
        self.same([clashes(office, 0, 6), clashes(office, 6, 6), clashes(office, 6, 2)], [[], [], []])


class AttemptTest(Checks, unittest.TestCase):
    """Point 10.7."""

    def much(self, office):
        """Deeds, undoing, branches and merges, of which some are refused."""
        office.do(("colour", "g", "c", "z"))
        office.undo(), office.undo()
        office.branch("more")
        office.go("more")
        office.do(("open", "n", "a", "x"))
        office.go("side")
        office.merge("more")
        with self.assertRaises(NothingDone):
            office.redo()
        with self.assertRaises(UnknownName):
            office.do(("close", "zz"))

    def test_what_ends_well_stays(self):
        office, other = hall(), hall()
        told = {"a": [1]}
        seen = []

        def action(same):
            seen.append(same is office)
            self.much(same)
            return told
        self.assertIs(attempt(office, action), told)
        self.much(other)
        self.same(all_told(office), all_told(other))
        self.same([office == other, seen, office.here()], [True, [True], "side"])

    def test_each_value_is_the_very_one(self):
        office = hall()
        for value in odd_values() + [office, Office, self]:
            self.assertIs(attempt(office, lambda same: value), value)
        self.assertIs(attempt(office, Office.twin) == office, True)
        self.assertIsNone(attempt(office, self.much))

    def test_failures_of_any_kind(self):
        for made in [ValueError("x"), KeyError("x"), BadName("x"), NoMoment(7), Clash((("web", "g"),)), Halt(), KeyboardInterrupt(),
                     SystemExit(3), GeneratorExit(), StopIteration(), RecursionError()]:
            office = hall()
            before, twin = strict(all_told(office)), office.twin()

            def action(same):
                self.much(same)
                raise made
            with self.assertRaises(BaseException) as caught:
                attempt(office, action)
            self.assertIs(caught.exception, made)
            self.assertEqual(strict(all_told(office)), before)
            self.assertTrue(office == twin)
            # The numbers are given again.
            self.same([len(office), office.do(("close", "g")), office.log()[-1]], [8, 8, (7, ("close", "g"))])

    def test_errors_of_the_office_itself(self):
        for kind, action in [
            (BadDeed, lambda office: office.do(())), (BadTie, lambda office: office.do(("tie", "g", "a", "a", "k", 1))),
            (TwiceTold, lambda office: office.do(("open", "g", "a", "x"))), (UnknownName, lambda office: office.go("zz")),
            (BadName, lambda office: office.branch("main")), (NothingDone, lambda office: [office.undo() for _ in range(20)]),
            (NoMoment, lambda office: office.moment(99)),
        ]:
            office = hall()
            before = strict(all_told(office))
            with self.assertRaises(kind):
                attempt(office, lambda same: (self.much(same), action(same)))
            self.assertEqual(strict(all_told(office)), before)

    def test_nested(self):
        office, other = hall(), hall()

        def inner(same):
            same.do(("close", "g"))
            raise Halt()

        def outer(same):
            same.do(("colour", "g", "a", "u"))
            with self.assertRaises(Halt):
                attempt(same, inner)
            self.same(same.present(), 8)
            attempt(same, lambda also: also.do(("colour", "g", "b", "u")))
            return same.present()
        self.same(attempt(office, outer), 9)
        other.do(("colour", "g", "a", "u")), other.do(("colour", "g", "b", "u"))
        self.assertTrue(office == other)

        def failing(same):
            attempt(same, lambda also: also.do(("close", "g")))
            self.same(len(same), 11)
            raise ValueError()
        with self.assertRaises(ValueError):
            attempt(office, failing)
        self.assertTrue(office == other)
        self.same(all_told(office), all_told(other))

    def test_other_offices_are_left_alone(self):
        office, other = hall(), hall()

        def action(same):
            self.twin = same.twin()
            other.do(("close", "g"))
            same.do(("close", "g"))
            raise Halt()
        with self.assertRaises(Halt):
            attempt(office, action)
        self.same([len(office), len(other), len(self.twin), self.twin == office], [8, 9, 8, True])

    def test_at_random(self):
        for seed in range(330, 345):
            office, model = played(seed, 40)
            source = random.Random(seed)
            before = strict(all_told(office))

            def action(same):
                for _ in range(20):
                    asked(same, "do", random_deed(source, model.moments[0], [None]))
                    asked(same, source.choice(["undo", "redo"]))
                    asked(same, source.choice(["go", "merge", "branch"]), source.choice(["main", "one", "two", "three"]))
                raise Halt()
            with self.assertRaises(Halt):
                attempt(office, action)
            self.assertEqual(strict(all_told(office)), before)
            self.same(all_told(office), all_of_model(model))


class TriedTest(Checks, unittest.TestCase):
    """Point 10.7: tried."""

    def test_all_of_them(self):
        office = hall()
        deeds = [("close", "g"), ("open", "g", "d", "z"), ("want", "g", "d", "q")]
        self.same(tried(office, deeds), [8, 9, 10])
        self.same([office.webs(), office.wanted("g"), office.log()[7:]],
                  [["g"], [("d", "q")], [(7, deeds[0]), (8, deeds[1]), (9, deeds[2])]])
        self.same([tried(office, ()), tried(office, (("close", "g"),)), office.present()], [[], [11], 11])
        self.same([strict(deeds), tried(Office(), []), tried(Office(), [("open", "g", "a", "x")])], [strict(deeds), [], [1]])

    def test_none_of_them(self):
        office = hall()
        office.undo()
        before = strict(all_told(office))
        for value in odd_values():
            with self.assertRaises(BadDeed):
                tried(office, [("close", "g"), ("open", "g", "d", "z"), value, ("close", "g")])
            self.refuses(UnknownName, value, tried, office, [("unwant", "g", "a"), ("close", value), None])
            self.assertEqual(strict(all_told(office)), before)
        self.refuses(TwiceTold, "g", tried, office, [("open", "h", "a", "x"), ("open", "g", "a", "x")])
        self.assertEqual(strict(all_told(office)), before)
        self.same([office.redo(), office.do(("close", "g"))], [7, 8])

    def test_limits(self):
        office = hall()
        with self.assertRaises(TooMany):
            tried(office, [("unwant", "g", "a")] * 193)
        self.same(len(office), 8)
        self.same(tried(office, [("unwant", "g", "a")] * 192), list(range(8, 200)))
        with self.assertRaises(TooMany):
            tried(office, [("unwant", "g", "a")])
        self.same([tried(office, []), len(office)], [[], 200])


if __name__ == "__main__":
    unittest.main()
