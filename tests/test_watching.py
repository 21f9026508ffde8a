"""Points 10.8 to 10.10."""

import itertools
import random
import unittest

from namelessly.errors import BadDeed, NoMoment, TooMany, TwiceTold, UnknownName
from namelessly.machines import is_machine, judge_machine, separating_machine
from namelessly.office import Office
from namelessly.watching import (
    barred_webs, changes, first_turn, judge_verdict, steady_from, verdict, verdict_line, verdict_paper, verdicts,
    wish_of, wish_result, would_change,
)
from namelessly.webs import Web
from namelessly.weights import judge_weights, weight_table
from namelessly.wishes import judge_wish, wish_machine
from tests.model import all_told, asked, played, random_deed
from tests.support import Checks, odd_values, plain_kin, strict

PAIR = [("open", "g", "a", "x"), ("open", "h", "a", "x"), ("come", "h", "b", "x"), ("come", "g", "b", "x"), ("tie", "h", "a", "b", "k", 1)]


def office_of(*deeds):
    office = Office()
    for deed in deeds:
        office.do(deed)
    return office


def plain_verdict(one, other):
    """The verdict by the oracle of points 2.1 and 2.3."""
    most = len(one) + len(other)
    return next((k for k in range(most + 1) if not plain_kin(one, other, k)), "kin")


class WatchChecks(Checks):

    def told(self, office, call, *args):
        """What a call tells; the office stays as it is."""
        before = strict(all_told(office))
        twin = office.twin()
        got = self.fresh(call, office, *args)
        self.assertEqual(strict(all_told(office)), before)
        self.assertTrue(office == twin)
        return got

    def refused(self, office, kind, told, call, *args):
        before = strict(all_told(office))
        self.refuses(kind, told, call, office, *args)
        self.assertEqual(strict(all_told(office)), before)

    def verdict_of(self, office, number, one, other, cache={}):
        """The verdict by the oracle, None if one of the webs does not exist."""
        webs = {name: web for name, web, _ in office.moment(number)}
        if one not in webs or other not in webs:
            return None
        key = strict([webs[one], webs[other]])
        if key not in cache:
            cache[key] = plain_verdict(webs[one], webs[other])
        return cache[key]


class ErrorsTest(WatchChecks, unittest.TestCase):
    """NoMoment ahead of UnknownName ahead of TwiceTold, for any values."""

    def test_numbers(self):
        office = office_of(*PAIR)
        for value in odd_values() + [-1, -6, 6, 10 ** 39, "0"]:
            if type(value) is int and 0 <= value < 6:
                continue
            for call in (verdict, verdict_paper):
                self.refused(office, NoMoment, value, call, value, "zz", None)
            self.refused(office, NoMoment, value, judge_verdict, value, "zz", [], None)
            for call in (wish_of, wish_result):
                self.refused(office, NoMoment, value, call, value, ["zz", "g", "g"])
            for call in (verdicts, barred_webs):
                self.refused(office, NoMoment, value, call, value)
            self.refused(office, NoMoment, value, changes, value, "zz")
            self.refused(office, NoMoment, value, changes, 5, value)

    def test_names(self):
        office = office_of(*PAIR)
        for value in odd_values() + ["zz", "a", "main", "x"]:
            for call, more in ((verdict, ()), (verdict_paper, ()), (judge_verdict, (None,))):
                self.refused(office, UnknownName, value, call, 5, value, "zz", *more)
                self.refused(office, UnknownName, value, call, 5, "g", value, *more)
            for call in (wish_of, wish_result):
                self.refused(office, UnknownName, value, call, 5, ["g", "g", value])
                self.refused(office, UnknownName, value, call, 5, (value, "yy", value))
            for call in (verdict_line, steady_from):
                self.refused(office, UnknownName, value, call, value, "zz")
                self.refused(office, UnknownName, value, call, "h", value)
            self.refused(office, UnknownName, value, first_turn, value, "zz", [None])
            self.refused(office, UnknownName, value, first_turn, "h", value, [])
        self.refused(office, UnknownName, "h", verdict, 1, "g", "h")
        self.refused(office, UnknownName, "g", verdict, 0, "g", "h")

    def test_names_of_the_present_moment(self):
        office = office_of(*PAIR, ("close", "h"))
        for call, more in ((verdict_line, ()), (steady_from, ()), (first_turn, ([],))):
            self.refused(office, UnknownName, "h", call, "g", "h", *more)
        self.same([verdict(office, 5, "g", "h"), verdicts(office, 6)], [1, []])
        office.undo()
        self.same(verdict_line(office, "h", "g")[-1], 1)

    def test_twice(self):
        office = office_of(*PAIR)
        for call in (wish_of, wish_result):
            self.refused(office, TwiceTold, "h", call, 5, ["g", "h", "h"])
            self.refused(office, TwiceTold, "g", call, 5, ("g", "g"))


class VerdictTest(WatchChecks, unittest.TestCase):
    """Point 10.8."""

    def test_as_the_point_tells_it(self):
        seen = set()
        for seed in range(400, 412):
            office, _ = played(seed, 60)
            for number in random.Random(seed).sample(range(len(office)), 12):
                names = [name for name, _, _ in office.moment(number)]
                webs = {name: web for name, web, _ in office.moment(number)}
                told = self.told(office, verdicts, number)
                self.same(told, [(one, other, self.verdict_of(office, number, one, other))
                                 for one, other in itertools.combinations(names, 2)])
                for one, other in itertools.product(names, names):
                    wanted = self.verdict_of(office, number, one, other)
                    seen.add(wanted)
                    self.same(verdict(office, number, one, other), wanted)
                    self.check_paper(office, number, one, other, webs[one], webs[other], wanted)
        self.assertTrue({"kin", 0, 1} <= seen, seen)

    def check_paper(self, office, number, one, other, first, last, wanted):
        paper = self.fresh(verdict_paper, office, number, one, other)
        self.same(len(paper), 2)
        if wanted == "kin":
            self.same([paper[0], judge_weights(first, last, paper[1])], ["kin", None])
        else:
            self.same([paper[0], is_machine(paper[1]), len(paper[1])], ["apart", True, wanted])
            self.same(judge_machine(first, last, paper[1], wanted), None)
        self.same(self.fresh(judge_verdict, office, number, one, other, paper), None)

    def test_one_web_at_both_sides(self):
        office = office_of(*PAIR)
        self.same([verdict(office, 5, "h", "h"), verdict_paper(office, 5, "h", "h")[0]], ["kin", "kin"])
        self.same([verdict_line(office, "h", "h"), steady_from(office, "h", "h")], [[None, None, "kin", "kin", "kin", "kin"], 2])
        self.same(first_turn(office, "h", "h", [("come", "h", "c", "x"), ("close", "h")]), 1)
        self.same(judge_verdict(office, 5, "h", "h", ("apart", ())), ("paper", ("shares",)))

    def test_judge_verdict(self):
        office = office_of(*PAIR)
        kin, apart = office.moment(4), office.moment(5)
        table = weight_table(kin[0][1], kin[1][1])
        machine = separating_machine(apart[0][1], apart[1][1])
        self.same(judge_verdict(office, 4, "g", "h", ("kin", table)), None)
        self.same(judge_verdict(office, 5, "g", "h", ("apart", machine)), None)
        self.same(judge_verdict(office, 5, "g", "h", ("apart", machine * 3)), ("paper", ("shares",)))
        self.same(judge_verdict(office, 5, "g", "h", ("apart", machine + ((("x", (), "x"),),))), ("paper", ("shares",)))
        # However many rounds: letters that stay unlike.
        stay = tuple((rule[2], (), rule[2]) for rule in machine[0] if rule[1] == ())
        self.same(len(stay), 1)
        self.same(judge_verdict(office, 5, "g", "h", ("apart", machine + (stay,) * 9)), None)
        self.same(judge_verdict(office, 4, "g", "h", ("apart", machine)), ("paper", ("shares",)))
        self.same(judge_verdict(office, 5, "g", "h", ("kin", table)), ("paper", ("ties", "a", "a", "k")))
        self.same(judge_verdict(office, 4, "g", "h", ("kin", ((1, 0), (0, 2)))), ("paper", ("rows", "b")))

    def test_any_value(self):
        office = office_of(*PAIR)
        for value in odd_values():
            self.same(self.told(office, judge_verdict, 5, "g", "h", value), ("form",))
            self.same(judge_verdict(office, 5, "g", "h", (value, ())), ("form",))
            self.same(judge_verdict(office, 5, "g", "h", (value, ((1, 1), (1, 1)))), ("form",))
            for kind in ("kin", "apart"):
                wanted = ("shares",) if isinstance(value, tuple) and not value and kind == "apart" else ("form",)
                self.same(judge_verdict(office, 5, "g", "h", (kind, value)), ("paper", wanted))
                self.same(judge_verdict(office, 5, "g", "h", [kind, value]), ("form",))
                self.same(judge_verdict(office, 5, "g", "h", (kind, value, value)), ("form",))
                self.same(judge_verdict(office, 5, "g", "h", (kind,)), ("form",))


class WishTest(WatchChecks, unittest.TestCase):
    """Point 10.9."""

    def test_as_the_point_tells_it(self):
        seen = set()
        for seed in range(420, 440):
            office, _ = played(seed, 80)
            source = random.Random(seed)
            for number in range(0, len(office), 5):
                moment = office.moment(number)
                if not moment:
                    continue
                names = source.sample([name for name, _, _ in moment], source.randint(1, min(3, len(moment))))
                parts = [part for name in names for part in moment if part[0] == name]
                wish = [(at, p, letter) for at, part in enumerate(parts) for p, letter in part[2]]
                self.same(self.told(office, wish_of, number, names), ([part[1] for part in parts], wish))
                paper = self.fresh(wish_result, office, number, tuple(names))
                seen.add(paper[0])
                self.same(judge_wish([part[1] for part in parts], wish, paper), None)
                barred = [name for name, web, wanted in moment
                          if wish_machine([web], [(0, p, letter) for p, letter in wanted])[0] == "alike"]
                self.same(self.told(office, barred_webs, number), barred)
                seen.add(len(barred) > 0)
        self.assertEqual(seen, {"machine", "alike", True, False})

    def test_examples(self):
        office = office_of(*PAIR, ("want", "h", "b", "right"), ("want", "g", "b", "x"), ("want", "h", "a", "left"))
        self.same(wish_of(office, 8, ["h", "g"])[1], [(0, "a", "left"), (0, "b", "right"), (1, "b", "x")])
        self.same(wish_of(office, 8, ("g", "h"))[1], [(0, "b", "x"), (1, "a", "left"), (1, "b", "right")])
        self.same([wish_result(office, 8, ["h"]), wish_result(office, 8, ["g", "h"])], [("alike", 0, 1), ("alike", 1, 2)])
        self.same([barred_webs(office, 8), barred_webs(office, 7), barred_webs(office, 0)], [["h"], [], []])
        self.same([wish_of(office, 4, ["g"])[1], wish_result(office, 7, ["g", "h"])[0]], [[], "machine"])


class ChangesTest(WatchChecks, unittest.TestCase):
    """Point 10.10."""

    def plain_changes(self, office, first, second):
        names = sorted({part[0] for number in (first, second) for part in office.moment(number)})
        told = []
        for one, other in itertools.combinations(names, 2):
            before, after = self.verdict_of(office, first, one, other), self.verdict_of(office, second, one, other)
            if strict(before) != strict(after):
                told.append((one, other, before, after))
        return told

    def test_as_the_point_tells_it(self):
        for seed in range(440, 452):
            office, model = played(seed, 60)
            source = random.Random(seed)
            for _ in range(15):
                first, second = source.randrange(len(office)), source.randrange(len(office))
                self.same(self.told(office, changes, first, second), self.plain_changes(office, first, second))
            for _ in range(25):
                deed = random_deed(source, model.moments[model.present()], odd_values())
                before, twin = strict(all_told(office)), office.twin()
                wanted = asked(twin, "do", deed)
                if wanted[0] == "told":
                    self.same(self.fresh(would_change, office, deed), self.plain_changes(twin, office.present(), wanted[1]))
                else:
                    with self.assertRaises(wanted[1]) as caught:
                        would_change(office, deed)
                    self.same(tuple(vars(caught.exception).values()), wanted[2:])
                self.assertEqual(strict(all_told(office)), before)

    def test_examples(self):
        office = office_of(*PAIR, ("open", "f", "c", "x"))
        self.same(changes(office, 5, 6), [("f", "g", None, "kin"), ("f", "h", None, 1)])
        self.same(changes(office, 6, 5), [("f", "g", "kin", None), ("f", "h", 1, None)])
        self.same([changes(office, 0, 6), changes(office, 6, 6)], [[("f", "g", None, "kin"), ("f", "h", None, 1), ("g", "h", None, 1)], []])
        self.same(would_change(office, ("colour", "h", "b", "y")),
                  [("f", "h", 1, 0), ("g", "h", 1, 0)])

    def test_limits(self):
        office = office_of(*PAIR)
        while len(office) < 200:
            office.do(("unwant", "g", "a"))
        before = strict(all_told(office))
        for deed in (("unwant", "g", "a"), ("close", "g")):
            with self.assertRaises(TooMany):
                would_change(office, deed)
            with self.assertRaises(TooMany):
                first_turn(office, "g", "h", [deed])
        self.refused(office, UnknownName, "zz", would_change, ("close", "zz"))
        self.refused(office, UnknownName, "zz", first_turn, "g", "h", [("close", "zz")])
        self.same(first_turn(office, "g", "h", []), None)
        self.assertEqual(strict(all_told(office)), before)
        office = office_of(*[("open", name, "a", "x") for name in "abcdef"])
        with self.assertRaises(TooMany):
            would_change(office, ("open", "g", "a", "x"))
        self.same(would_change(office, ("come", "a", "b", "y")), [("a", name, "kin", 0) for name in "bcdef"])

    def test_lines(self):
        for seed in range(460, 475):
            office, _ = played(seed, 70)
            names = office.webs()
            for one, other in itertools.product(names, names):
                trail = office.trail(office.here())[:office.mark(office.here()) + 1]
                line = [self.verdict_of(office, number, one, other) for number in trail]
                self.same(self.told(office, verdict_line, one, other), line)
                index = min(at for at in range(len(line)) if all(strict(part) == strict(line[-1]) for part in line[at:]))
                self.same(self.told(office, steady_from, one, other), index)

    def test_lines_of_branches(self):
        office = office_of(*PAIR)
        office.branch("side")
        self.same([verdict_line(office, "g", "h"), steady_from(office, "g", "h")], [[None, None, "kin", "kin", "kin", 1], 5])
        office.undo()
        self.same([verdict_line(office, "g", "h"), steady_from(office, "h", "g")], [[None, None, "kin", "kin", "kin"], 2])
        office.go("side")
        self.same([verdict_line(office, "g", "h"), steady_from(office, "g", "h")], [[1], 0])
        office.do(("close", "h")), office.do(("open", "h", "a", "x")), office.do(("come", "h", "b", "y"))
        self.same([verdict_line(office, "g", "h"), steady_from(office, "g", "h")], [[1, None, "kin", 0], 3])
        office.do(("unwant", "g", "a"))
        self.same(steady_from(office, "g", "h"), 3)

    def test_first_turn(self):
        seen = set()
        for seed in range(480, 510):
            office, model = played(seed, 50)
            source = random.Random(seed)
            if len(office.webs()) < 2:
                continue
            one, other = source.sample(office.webs(), 2)
            deeds = [random_deed(source, model.moments[model.present()], [None]) for _ in range(8)]
            wanted = self.plain_turn(office, one, other, deeds)
            before = strict(all_told(office))
            if isinstance(wanted, tuple):
                with self.assertRaises(wanted[0]) as caught:
                    first_turn(office, one, other, deeds)
                self.same(tuple(vars(caught.exception).values()), wanted[1:])
            else:
                self.same(self.fresh(first_turn, office, one, other, deeds), wanted)
            seen.add(type(wanted))
            self.assertEqual(strict(all_told(office)), before)
        self.assertTrue({int, tuple} <= seen, seen)

    def plain_turn(self, office, one, other, deeds):
        twin = office.twin()
        start = self.verdict_of(twin, twin.present(), one, other)
        for at, deed in enumerate(deeds):
            told = asked(twin, "do", deed)
            if told[0] == "refused":
                return told[1:]
            if strict(self.verdict_of(twin, told[1], one, other)) != strict(start):
                return at
        return None

    def test_turns(self):
        office = office_of(*PAIR)
        calm, turn = ("unwant", "g", "a"), ("tie", "g", "a", "b", "k", 1)
        self.same(self.told(office, first_turn, "g", "h", [calm, calm, turn, None]), 2)
        self.same([first_turn(office, "g", "h", ()), first_turn(office, "g", "h", [calm])], [None, None])
        self.same([first_turn(office, "g", "h", [("close", "g"), None]), first_turn(office, "g", "h", (("close", "h"),))], [0, 0])
        for value in odd_values():
            with self.assertRaises(BadDeed):
                first_turn(office, "g", "h", [calm, value, turn])
        # The first verdict counts, also where later ones are alike.
        self.same(first_turn(office, "g", "h", [turn, ("untie", "g", "a", "b", "k")]), 0)
        self.same(first_turn(office, "g", "g", [turn, calm]), None)
        long = office_of(*PAIR)
        with self.assertRaises(TooMany):
            first_turn(long, "g", "h", [calm] * 195)
        self.same([first_turn(long, "g", "h", [calm] * 194), first_turn(long, "g", "h", [calm] * 193 + [turn, calm])], [None, 193])

    def test_lists_do_not_change_later(self):
        office = office_of(*PAIR)
        told = [verdicts(office, 5), verdict_line(office, "g", "h"), changes(office, 0, 5), wish_of(office, 5, ["g"]), barred_webs(office, 5)]
        before = strict(told)
        office.do(("close", "g"))
        office.undo()
        office.do(("want", "g", "a", "q"))
        self.assertEqual(strict(told), before)


class FullTest(WatchChecks, unittest.TestCase):
    """An office as full as the limits allow."""

    def full(self):
        office = Office()
        for at in range(6):
            office.do(("open", f"w{at}", "p0", "x"))
        for number in range(1, 12):
            for at in range(6):
                office.do(("come", f"w{at}", f"p{number}", "x"))
        ties = [("tie", f"w{at}", f"p{number}", f"p{number + 1}", "k", 99) for number in range(11) for at in range(6)]
        for deed in ties + [("colour", "w5", "p11", "x")] * 61:
            office.do(deed)
        return office

    def test_all_calls(self):
        office = self.full()
        self.same([len(office), [len(office.web(name)) for name in office.webs()]], [200, [12] * 6])
        self.same([part[2] for part in verdicts(office, 199)], ["kin"] * 15)
        paper = verdict_paper(office, 137, "w0", "w5")
        self.same([paper[0], judge_verdict(office, 137, "w0", "w5", paper)], ["apart", None])
        self.same([len(verdict_line(office, "w0", "w1")), len(changes(office, 0, 199)), barred_webs(office, 199)], [200, 15, []])
        self.same([wish_result(office, 199, ["w0", "w1", "w2"])[0], steady_from(office, "w0", "w1")], ["machine", 134])
        with self.assertRaises(TooMany):
            first_turn(office, "w0", "w1", [("go", "w0", "p6")])

    def test_wishes_at_all_places(self):
        office = office_of(("open", "g", "p0", "x"), *[("come", "g", f"p{at}", "x") for at in range(1, 12)],
                           *[("tie", "g", f"p{at}", f"p{at + 1}", "k", 1) for at in range(11)],
                           *[("want", "g", f"p{at}", "q") for at in range(12)], ("want", "g", "p7", "r"))
        self.same([wish_result(office, len(office) - 2, ["g"])[0], wish_result(office, len(office) - 1, ["g"])],
                  ["machine", ("alike", 4, 7)])


if __name__ == "__main__":
    unittest.main()
