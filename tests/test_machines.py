"""Points 8.1 to 8.3."""

import random
import re
import unittest

from namelessly.errors import BadMachine, BadNumber
from namelessly.kin import kin, separating_round
from namelessly.machines import (
    class_machine, is_machine, judge_class_machine, judge_machine, letter_counts, run, run_rounds, separating_machine,
)
from namelessly.rounds import settling_round
from namelessly.webs import Web, beside, copies
from tests.support import (
    Checks, kin_pairs, odd_values, parted, path, plain_rounds, plain_run, random_machine, random_webs, ring,
    webs_that_are_not_kin,
)

HEARD = (("k", "", 1), ("k", "x", 2), ("l", "a", 1))
RULE = ("x", HEARD, "y")
ENDS = ((("x", (("k", "x", 1),), "end"), ("x", (("k", "x", 2),), "mid")),)
WRONG_RULES = [
    [], "x", None, ("x", HEARD), ("x", HEARD, "y", "y"), list(RULE), ("X", HEARD, "y"), ("x", HEARD, "Y"), ("x", HEARD, None),
    (None, HEARD, "y"), (True, HEARD, "y"), (" ", HEARD, "y"), ("x", HEARD, "abcdefghi"), ("x", HEARD, "a12345"),
    ("x", list(HEARD), "y"), ("x", {}, "y"), ("x", "", "y"), ("x", None, "y"), ("x", HEARD, "\n"),
    ("x", (["k", "x", 1],), "y"), ("x", (("k", "x"),), "y"), ("x", (("k", "x", 1, 1),), "y"), ("x", ("k", "x", 1), "y"),
    ("x", (("", "x", 1),), "y"), ("x", (("K", "x", 1),), "y"), ("x", ((None, "x", 1),), "y"), ("x", (("k", "X", 1),), "y"),
    ("x", (("k", None, 1),), "y"), ("x", (("k", "x", 0),), "y"), ("x", (("k", "x", -1),), "y"), ("x", (("k", "x", True),), "y"),
    ("x", (("k", "x", "1"),), "y"), ("x", (("k", "x", None),), "y"), ("x", (("k", "x", [1]),), "y"),
    ("x", (("k", "x", 1), ("k", "x", 1)), "y"), ("x", (("k", "x", 1), ("k", "x", 2)), "y"),
    ("x", (("k", "x", 1), ("k", "", 1)), "y"), ("x", (("k", "p2", 1), ("k", "p10", 1)), "y"),
    ("x", (("l", "a", 1), ("k", "b", 1)), "y"), ("x", (("k2", "a", 1), ("k10", "a", 1)), "y"),
]


def wrong_machines():
    """Tuples (value, number of the first wrong round)."""
    found = [(((RULE,), [RULE], ()), 1), (((RULE,), (RULE,), {}), 2), ((RULE,), 0), (((), RULE, ()), 1)]
    for rule in WRONG_RULES:
        found += [(((rule,),), 0), (((RULE,), (RULE, rule)), 1), (((), (rule, RULE), (rule,)), 1)]
    for new in ("y", "z", ""):
        found += [(((RULE, ("x", HEARD, new)),), 0), (((), (("", (), new), RULE, ("", (), "y")), [], None), 1)]
    return found


class FormTest(Checks, unittest.TestCase):
    """Point 8.1: what is a machine."""

    def test_machines(self):
        for value in [
            (), ((),), ((), ()), ((RULE,),), ENDS, ((RULE, ("x", HEARD[:1], "y"), ("", HEARD, "y"), ("x", (), "")),),
            ((("", (), ""),),), ((RULE,), (RULE,)), ((("abcdefgh1234", (("a0", "", 10 ** 39),), "a"),),),
            ((("x", (("k", "p10", 1), ("k", "p2", 1), ("k10", "a", 1), ("k2", "", 1)), "y"),),),
        ]:
            self.same(self.fresh(is_machine, value), True)

    def test_other_values(self):
        for value in odd_values():
            if strict_empty(value):
                continue
            self.same(self.fresh(is_machine, value), False)
        for value, _ in wrong_machines():
            self.same(self.fresh(is_machine, value), False)
            self.same(is_machine(list(value)), False)
        for value in ([], [()], {(): ()}, list(ENDS), [list(ENDS[0])], (list(ENDS[0]),)):
            self.same(is_machine(value), False)

    def test_bad_machines(self):
        for call in (run, run_rounds, letter_counts):
            for value in odd_values():
                if not strict_empty(value):
                    self.refuses(BadMachine, 0, call, path(2), value)
            for value, number in wrong_machines():
                self.refuses(BadMachine, number, call, path(2), value)
            self.refuses(BadMachine, 0, call, path(2), [()])
            self.refuses(BadMachine, 3, call, path(2), ((), (RULE,), ENDS[0], [], ()))
            self.refuses(BadMachine, 1, call, path(2), ((), True))


def strict_empty(value):
    return isinstance(value, tuple) and len(value) == 0


class RunTest(Checks, unittest.TestCase):
    """Point 8.1: what a machine does."""

    def test_as_the_point_tells_it(self):
        source = random.Random(200)
        seen = set()
        for web in random_webs(201, 120):
            machine = random_machine(source, [web], source.randint(0, 4), kept=source.choice([0.5, 0.9, 1]))
            wanted = plain_run(web, machine)
            seen |= set(wanted[-1])
            self.same(self.fresh(run_rounds, web, machine), wanted)
            self.same(self.fresh(run, web, machine), wanted[-1])
            told = self.fresh(letter_counts, web, machine)
            self.same(told, {letter: wanted[-1].count(letter) for letter in wanted[-1]})
            self.assertEqual(list(told), sorted(told))
        self.assertTrue({"", "a", "b", "c"} <= seen)

    def test_edges(self):
        web = Web([("b", "x"), ("a", "y"), ("c", "p10"), ("d", "p2")], [("a", "b", "l", 2), ("c", "b", "k", 1), ("a", "c", "k", 3)])
        self.same(run(web, ()), ["x", "y", "p10", "p2"])
        self.same(run_rounds(web, ((),)), [["x", "y", "p10", "p2"], [""] * 4])
        rules = (("x", (("k", "p10", 1), ("l", "y", 2)), ""), ("y", (("k", "p10", 3), ("l", "x", 2)), "a"), ("p2", (), "z"),
                 ("p10", (("k", "x", 1), ("k", "y", 3)), "p2"))
        self.same(run(web, (rules,)), ["", "a", "p2", "z"])
        again = (("", (("k", "p2", 1), ("l", "a", 2)), "x"), ("a", (("k", "p2", 3), ("l", "", 2)), ""), ("z", (), ""))
        self.same(run_rounds(web, (rules, again)), [["x", "y", "p10", "p2"], ["", "a", "p2", "z"], ["x", "", "", ""]])
        self.same(list(letter_counts(web, ()).items()), [("p10", 1), ("p2", 1), ("x", 1), ("y", 1)])
        self.same(list(letter_counts(web, (rules, again)).items()), [("", 3), ("x", 1)])

    def test_places_hear_sums(self):
        star = Web([(name, "x") for name in "abcd"], [("a", end, "k", width) for end, width in zip("bcd", (1, 2, 3))])
        rules = (("x", (("k", "x", 6),), "mid"), ("x", (("k", "x", 2),), "two"))
        self.same(run(star, (rules,)), ["mid", "", "two", ""])
        self.same(run(star, ((("x", (("k", "x", 3),), "a"), ("x", (("k", "x", 5),), "b")),)), ["", "", "", "a"])
        self.same(run(star, ((("x", (("j", "x", 6),), "a"), ("x", (("k", "x", 6), ("l", "x", 1)), "b")),)), [""] * 4)

    def test_great_webs(self):
        great = copies(path(5), 48)[0]
        self.same(letter_counts(great, ENDS), {"end": 96, "mid": 144})
        self.same(run(great, ENDS)[:6], ["end", "mid", "mid", "mid", "end", "end"])


class SeparatingTest(Checks, unittest.TestCase):
    """Point 8.2."""

    def parts(self, one, other, machine):
        """Whether a machine separates two webs, by what the oracle tells of their letters."""
        first, last = plain_run(one, machine)[-1], plain_run(other, machine)[-1]
        return any(first.count(letter) * len(other) != last.count(letter) * len(one) for letter in set(first + last))

    def test_kin_webs(self):
        source = random.Random(202)
        for one, other in kin_pairs(203, 60):
            self.same([separating_machine(one, other), separating_machine(other, one)], [None, None])
            machine = random_machine(source, [one, other], source.randint(0, 3))
            self.assertFalse(self.parts(one, other, machine))
            self.same(judge_machine(one, other, machine, 5), ("shares",))

    def test_webs_that_are_not_kin(self):
        for one, other in webs_that_are_not_kin(204, 80):
            h = separating_round(one, other)
            for first, last in ((one, other), (other, one)):
                machine = self.fresh(separating_machine, first, last)
                self.same([is_machine(machine), len(machine)], [True, h])
                self.assertTrue(self.parts(first, last, machine))
                self.same([judge_machine(first, last, machine, k) for k in (h, h + 1)], [None, None])
                if h > 0:
                    self.same(judge_machine(first, last, machine, h - 1), ("rounds", h))

    def test_parted_at_once_and_late(self):
        self.same(separating_machine(path(2), path(2, colour="y")), ())
        one = Web([("a", "x"), ("b", "y")], [])
        self.same(separating_machine(one, Web([("a", "x"), ("b", "y"), ("c", "y")], [])), ())
        one, other = beside([path(4), ring(4)])[0], beside([ring(3), path(5)])[0]
        self.same(len(separating_machine(one, other)), 3)
        one = copies(path(5), 40)[0]
        other = copies(path(4), 50)[0]
        self.same([len(separating_machine(one, other)), judge_machine(one, other, separating_machine(one, other), 1)], [1, None])

    def test_no_machine_of_fewer_rounds_separates(self):
        source = random.Random(205)
        pairs = [(beside([path(n), path(m)])[0], beside([path(n + 1), path(m - 1)])[0])
                 for n, m in ((1, 3), (3, 5), (4, 6), (2, 6), (5, 7), (6, 8))]
        self.assertEqual([separating_round(one, other) for one, other in pairs], [1, 2, 3, 2, 3, 4])
        for one, other in pairs + webs_that_are_not_kin(206, 30):
            for many in range(separating_round(one, other)):
                machine = random_machine(source, [one, other], many, kept=1)
                self.same(judge_machine(one, other, machine, many), ("shares",))

    def test_judge_machine(self):
        source = random.Random(207)
        webs = random_webs(208, 60)
        seen = set()
        for one, other in zip(webs, webs[1:]):
            machine = random_machine(source, [one, other], source.randint(0, 3), letters=("", "a"))
            wanted = None if self.parts(one, other, machine) else ("shares",)
            seen.add(wanted)
            self.same(self.fresh(judge_machine, one, other, machine, len(machine)), wanted)
        self.assertEqual(len(seen), 2)
        self.same(judge_machine(path(3), path(4), ENDS, 1), None)
        self.same(judge_machine(path(3), path(3), ENDS * 2, 1), ("rounds", 2))
        self.same(judge_machine(path(3), copies(path(3), 2)[0], ENDS, 1), ("shares",))
        # "" is a letter like the others.
        self.same(judge_machine(path(3), path(4), (ENDS[0][:1],), 1), None)
        self.same(judge_machine(path(3), path(4), ((),), 1), ("shares",))
        self.same(judge_machine(path(3), ring(3), ((("x", (("k", "x", 1),), ""),),), 1), ("shares",))
        self.same(judge_machine(path(3), ring(3), (), 0), ("shares",))
        self.same(judge_machine(path(3), path(3, colour="y"), (), 0), None)

    def test_any_value(self):
        for value in odd_values():
            if not strict_empty(value):
                self.same(self.fresh(judge_machine, path(3), path(4), value, 0), ("form",))
        for value, _ in wrong_machines():
            self.same(self.fresh(judge_machine, path(3), path(4), value, 0), ("form",))
        self.same(judge_machine(path(3), path(4), [ENDS[0]], 1), ("form",))


def some_lists(seed, many):
    source = random.Random(seed)
    webs = random_webs(seed, many) + random_webs(seed + 1, many, colours="x", kinds=("k",))
    lists = [[source.choice(webs) for _ in range(source.randint(1, 3))] for _ in range(many)]
    return lists + [[path(5), path(4), ring(3)], [path(8)], [copies(path(4), 2)[0], path(8), path(7)]]


def plain_pair(webs, k, machine):
    """The first two places of which judge_class_machine tells, word by word as point 8.3 does; None if there are none."""
    places = [(number, p) for number, web in enumerate(webs) for p in web.places()]
    classes = [number for row in plain_rounds(webs, k)[k] for number in row]
    letters = [letter for web in webs for letter in plain_run(web, machine)[-1]]
    for i in range(len(places)):
        for j in range(i + 1, len(places)):
            if (letters[i] == letters[j]) != (classes[i] == classes[j]):
                return ("places", places[i], places[j])
    return None


class ClassMachineTest(Checks, unittest.TestCase):
    """Point 8.3."""

    def test_class_machines(self):
        for webs in some_lists(210, 40):
            last = settling_round(webs)
            told = plain_rounds(webs, last + 2)
            for k in list(range(last + 3)) + [16]:
                machine = self.fresh(class_machine, webs, k)
                self.same([is_machine(machine), len(machine)], [True, k])
                letters = [letter for web in webs for letter in plain_run(web, machine)[-1]]
                classes = [number for row in told[min(k, last + 2)] for number in row]
                self.assertEqual(parted(letters), parted(classes))
                self.same(judge_class_machine(webs, k, machine), None)
                self.same(judge_class_machine(webs, k + 1, machine), ("rounds", k))

    def test_tuples_and_one_web_twice(self):
        web = path(3)
        machine = self.fresh(class_machine, (web, web), 2)
        self.same(self.fresh(judge_class_machine, (web, web), 2, machine), None)
        self.same(class_machine([web], 0), ())

    def test_great_colours(self):
        web = Web([("a", "c0"), ("b", "c1"), ("c", "abcdefgh"), ("d", "c0")], [("a", "b", "k", 1)])
        for k in range(4):
            self.same(judge_class_machine([web], k, class_machine([web], k)), None)

    def test_judge_class_machine(self):
        source = random.Random(212)
        seen = set()
        for webs in some_lists(213, 60):
            k = source.randint(0, 3)
            machine = random_machine(source, webs, k, kept=source.choice([0.9, 1]), letters=("a", "b", "c", "d", "e", "f"))
            wanted = plain_pair(webs, k, machine)
            seen.add(wanted and (wanted[1][0] == wanted[2][0]))
            self.same(self.fresh(judge_class_machine, webs, k, machine), wanted)
        self.assertEqual(seen, {None, True, False})

    def test_changed_class_machines(self):
        source = random.Random(214)
        for webs in some_lists(215, 60):
            k = source.randint(1, 3)
            machine = list(class_machine(webs, k))
            at = source.randrange(k)
            rules = list(machine[at])
            if source.random() < 0.5:
                rules.pop(source.randrange(len(rules)))
            else:
                spot = source.randrange(len(rules))
                rules[spot] = rules[spot][:2] + (source.choice([rules[0][2], "", "c0", "zz"]),)
            machine[at] = tuple(rules)
            machine = tuple(machine)
            self.same(judge_class_machine(webs, k, machine), plain_pair(webs, k, machine))

    def test_first_pairs(self):
        self.same(judge_class_machine([path(3), path(2)], 1, ((),)), ("places", (0, "a"), (0, "b")))
        self.same(judge_class_machine([path(2), path(3)], 1, ((),)), ("places", (0, "a"), (1, "b")))
        self.same(judge_class_machine([path(2), path(2, colour="y")], 1, ((),)), ("places", (0, "a"), (1, "a")))
        self.same(judge_class_machine([Web([("b", "x"), ("a", "y")], []), path(1)], 1, ((),)), ("places", (0, "b"), (0, "a")))
        rules = (("x", (("k", "x", 1),), "a"), ("x", (("k", "x", 2),), "a"))
        self.same(judge_class_machine([path(2), path(2), path(3)], 1, (rules,)), ("places", (0, "a"), (2, "b")))
        self.same(judge_class_machine([path(1), path(1)], 1, ((("x", (), ""),),)), None)

    def test_form_ahead_of_rounds_and_places(self):
        for value in odd_values():
            if not strict_empty(value):
                self.same(self.fresh(judge_class_machine, [path(3), path(4)], 1, value), ("form",))
        for value, _ in wrong_machines():
            self.same(self.fresh(judge_class_machine, [path(3)], 7, value), ("form",))
        self.same(judge_class_machine([path(3)], 1, ()), ("rounds", 0))
        self.same(judge_class_machine([path(3)], 0, ENDS), ("rounds", 1))
        self.same(judge_class_machine([path(3)], 2, ENDS), ("rounds", 1))

    def test_no_webs(self):
        for value in odd_values()[:-1]:
            self.refuses(BadNumber, 0, class_machine, [value], 1)
            self.refuses(BadNumber, 1, class_machine, [path(2), value, value], 0)
            self.refuses(BadNumber, 2, judge_class_machine, (path(2), path(2), value), 1, [])
            self.refuses(BadNumber, 0, judge_class_machine, [value, path(2)], 1, ())

    def test_no_machine_parts_one_class(self):
        source = random.Random(216)
        for webs in some_lists(217, 40):
            k = source.randint(0, 3)
            machine = random_machine(source, webs, k, kept=1)
            letters = [letter for web in webs for letter in run(web, machine)]
            classes = [number for row in plain_rounds(webs, k)[k] for number in row]
            self.assertEqual(len(set(zip(classes, letters))), len(set(classes)))

    def test_great_webs(self):
        webs = [copies(path(5), 48)[0], copies(path(4), 60)[0]]
        self.assertFalse(kin(webs[0], webs[1], None))
        self.same(judge_class_machine(webs, 1, ENDS), None)
        self.same(judge_class_machine(webs, 2, ENDS * 2), ("places", (0, "p0"), (0, "p1")))


def pattern(value):
    """Whether a string is a word, by a pattern."""
    return re.fullmatch("[a-z]{1,8}([0-9]{1,4})?", value) is not None


class LettersTest(Checks, unittest.TestCase):

    def test_all_letters_of_machines_that_are_made(self):
        for one, other in webs_that_are_not_kin(218, 20):
            for rules in separating_machine(one, other):
                for letter, heard, new in rules:
                    self.assertTrue(all(pattern(part) for part in [letter, new] + [part[1] for part in heard]))


if __name__ == "__main__":
    unittest.main()
