"""Points 8.4 to 8.6."""

import itertools
import random
import unittest

from namelessly.errors import BadNumber, TwiceTold, UnknownName
from namelessly.machines import is_machine, run
from namelessly.rounds import settled, settling_round
from namelessly.webs import Web, beside, coloured, copies
from namelessly.wishes import (
    alike_pair, fewest_marks, first_machine, first_places, judge_wish, marked, wish_machine,
)
from tests.support import (
    Checks, odd_values, path, plain_rounds, plain_run, plain_settling, random_machine, random_webs, ring,
)

ENDS = ((("x", (("k", "x", 1),), "end"), ("x", (("k", "x", 2),), "mid")),)


def plain_classes(webs):
    """The settled classes of the places (number, name) of a list of webs, by the oracle of point 2.1."""
    told = plain_rounds(webs, sum(len(web) for web in webs))[-1]
    return {(number, p): mine for number, web in enumerate(webs) for p, mine in zip(web.places(), told[number])}


def plain_alike(webs, wish):
    """The first two entries that bar a wish, word by word as point 8.4 tells them; None if there are none."""
    classes = plain_classes(webs)
    for i in range(len(wish)):
        for j in range(i + 1, len(wish)):
            if classes[wish[i][:2]] == classes[wish[j][:2]] and wish[i][2] != wish[j][2]:
                return ("alike", i, j)
    return None


def plain_letter(webs, wish, machine):
    """The first entry that a machine does not fulfil, as a fault; None if there is none."""
    for k, (number, name, letter) in enumerate(wish):
        web = webs[number]
        if plain_run(web, machine)[-1][web.places().index(name)] != letter:
            return ("letter", k)
    return None


def some_wishes(seed, many, letters=("", "a", "b")):
    """Tuples (webs, wish); some wishes cannot be fulfilled."""
    source = random.Random(seed)
    webs = random_webs(seed, many) + random_webs(seed + 1, many, colours="x", kinds=("k",)) + [path(5), ring(4), path(8)]
    found = []
    for _ in range(many):
        some = [source.choice(webs) for _ in range(source.randint(1, 3))]
        places = [(number, p) for number, web in enumerate(some) for p in web.places()]
        chosen = source.sample(places, source.randint(0, len(places)))
        classes = plain_classes(some)
        if source.random() < 0.5:
            told = {number: source.choice(letters + ("x", "y")) for number in sorted(set(classes.values()))}
            wish = [place + (told[classes[place]],) for place in chosen]
        else:
            wish = [place + (source.choice(letters),) for place in chosen]
        found.append((some, wish))
    return found


class ErrorsTest(Checks, unittest.TestCase):
    """Point 8.4: the errors of a wish."""

    def setUp(self):
        self.webs = [path(2), path(3)]
        self.calls = [wish_machine, lambda webs, wish: judge_wish(webs, wish, []),
                      lambda webs, wish: judge_wish(webs, wish, ("machine", ENDS))]

    def refused(self, kind, told, webs, wish):
        for call in self.calls:
            self.refuses(kind, told, call, webs, wish)

    def test_webs(self):
        for value in odd_values()[:-1]:
            self.refused(BadNumber, 0, [value, path(2), value], [None])
            self.refused(BadNumber, 2, [path(2), path(2), value], [(7, None, None)])

    def test_entries(self):
        fine = (0, "a", "l")
        for value in odd_values() + [
            [0, "a", "l"], ("a", 0, "l"), (0, "a"), (0, "a", "l", "l"), (2, "a", "l"), (-1, "a", "l"), (-2, "a", "l"),
            (True, "a", "l"), (False, "a", "l"), ("0", "a", "l"), (None, "a", "l"), ([0], "a", "l"), (10 ** 39, "a", "l"),
            (0, "a", "L"), (0, "a", None), (0, "a", " "), (0, "a", "abcdefghi"), (0, "a", ["l"]), (0, "zz", "L"), (0, "a", True),
            (0, "a", Web([("a", "x")], [])), (Web([("a", "x")], []), "a", "l"), (9, "zz", "l"),
        ]:
            self.refused(BadNumber, 0, self.webs, [value])
            self.refused(BadNumber, 1, self.webs, [fine, value, value, fine])
            self.refused(BadNumber, 2, self.webs, (fine, (1, "c", ""), value, (0, "zz", "l")))

    def test_places(self):
        for value in odd_values() + ["c", "k", "x"]:
            self.refused(UnknownName, value, self.webs, [(0, value, "l"), None])
            self.refused(UnknownName, value, self.webs, [(1, "c", "l"), (0, value, ""), (1, "c", "l")])
        self.refused(UnknownName, "d", self.webs, [(0, "a", "l"), (1, "d", "l"), (1, "d", "l"), (0, "a", "l")])

    def test_twice(self):
        self.refused(TwiceTold, "b", self.webs, [(0, "a", "l"), (0, "b", "l"), (1, "b", "l"), (0, "b", "m"), None])
        self.refused(TwiceTold, "b", self.webs, [(1, "b", "l"), (0, "b", "l"), (1, "b", "l"), (0, "c", "l")])
        self.refused(TwiceTold, "a", [path(2)], [(0, "a", ""), (0, "a", "")])
        self.same(wish_machine(self.webs, [(0, "a", "l"), (1, "a", "l")])[0], "machine")
        self.refused(BadNumber, 1, self.webs, [(0, "a", "l"), (0, "a", "L"), (0, "a", "l")])


class WishTest(Checks, unittest.TestCase):
    """Point 8.4: papers for wishes."""

    def test_as_the_point_tells_it(self):
        seen = set()
        for webs, wish in some_wishes(220, 150):
            paper = self.fresh(wish_machine, webs, wish)
            wanted = plain_alike(webs, wish)
            seen.add(paper[0])
            if wanted is not None:
                self.same(paper, wanted)
            else:
                self.same([paper[0], len(paper), is_machine(paper[1])], ["machine", 2, True])
                self.assertLessEqual(len(paper[1]), max(1, plain_settling(webs)))
                self.same(plain_letter(webs, wish, paper[1]), None)
            self.same(self.fresh(judge_wish, webs, wish, paper), None)
        self.assertEqual(seen, {"machine", "alike"})

    def test_colours_that_tell_enough(self):
        web = Web([("a", "x"), ("b", "y"), ("c", "y")], [])
        self.same(settling_round([web]), 0)
        for wish in ([], [(0, "a", "y"), (0, "b", "x")], [(0, "a", "x"), (0, "b", "y")], [(0, "c", "")],
                     [(0, "a", "m"), (0, "c", "m")]):
            kind, machine = self.fresh(wish_machine, [web], wish)
            self.same(kind, "machine")
            self.assertLessEqual(len(machine), 1)
            self.same(plain_letter([web], wish, machine), None)
        self.same(wish_machine([web], [(0, "a", "m"), (0, "b", "m"), (0, "c", "")]), ("alike", 1, 2))
        self.same(wish_machine([web, web], [(1, "a", "m"), (0, "a", "")]), ("alike", 0, 1))

    def test_rounds_of_the_whole_list(self):
        webs = [path(8), path(7), ring(5)]
        wish = [(0, "d", ""), (1, "d", "x"), (2, "a", "c0"), (0, "e", ""), (1, "a", "")]
        kind, machine = wish_machine(webs, wish)
        self.assertLessEqual(len(machine), settling_round(webs))
        self.same([kind, plain_letter(webs, wish, machine)], ["machine", None])

    def test_first_pairs(self):
        webs = [ring(3), ring(4)]
        wish = [(0, "a", "l"), (1, "a", "l"), (1, "b", "m"), (0, "b", "n"), (1, "c", "l")]
        self.same(wish_machine(webs, wish), ("alike", 0, 2))
        self.same(wish_machine(tuple(webs), tuple(wish[1:])), ("alike", 0, 1))
        self.same(wish_machine([path(3)], [(0, "b", "m"), (0, "a", "l"), (0, "c", "m")]), ("alike", 1, 2))

    def test_judge_machines(self):
        source = random.Random(222)
        seen = set()
        for webs, wish in some_wishes(223, 120):
            machine = random_machine(source, webs, source.randint(0, 3), kept=1, letters=("", "a"))
            wanted = plain_letter(webs, wish, machine)
            seen.add(wanted and wanted[0])
            self.same(self.fresh(judge_wish, webs, wish, ("machine", machine)), wanted)
        self.assertEqual(seen, {None, "letter"})
        self.same(judge_wish([path(3)], [(0, "a", "end"), (0, "c", "mid")], ("machine", ENDS)), ("letter", 1))
        self.same(judge_wish([path(3)], [(0, "a", "x"), (0, "b", "x")], ("machine", ())), None)
        self.same(judge_wish([path(3)], [(0, "a", ""), (0, "b", "")], ("machine", ENDS * 5)), None)
        self.same(judge_wish([path(3)], [], ("machine", ENDS)), None)

    def test_judge_alike(self):
        for webs, wish in some_wishes(224, 80):
            classes = plain_classes(webs)
            for i in range(len(wish)):
                for j in range(len(wish)):
                    if not i < j:
                        wanted = ("form",)
                    elif wish[i][2] == wish[j][2]:
                        wanted = ("same",)
                    else:
                        wanted = None if classes[wish[i][:2]] == classes[wish[j][:2]] else ("apart",)
                    self.same(judge_wish(webs, wish, ("alike", i, j)), wanted)
            for pair in ((0, len(wish)), (len(wish), len(wish) + 1), (-1, 0), (-2, -1)):
                self.same(judge_wish(webs, wish, ("alike",) + pair), ("form",))

    def test_form(self):
        wish = [(0, "a", "l"), (0, "b", "m"), (0, "c", "m")]
        for value in odd_values() + [
            ["machine", ENDS], ["alike", 0, 2], ("machine",), ("machine", ENDS, ENDS), ("machine", list(ENDS)), ("Machine", ENDS),
            ("machine", (ENDS,)), ("machine", None), ("machine", 0, 2), ("alike", 0), ("alike", 0, 2, 2), ("alike", 2, 0),
            ("alike", 0, 0), ("alike", 0, 3), ("alike", 3, 4), ("alike", -3, -1), ("alike", False, 2), ("alike", 0, True),
            ("alike", "0", "2"), ("alike", None, 2), ("alike", 0, [2]), ("alike", (0, 2)), ("alike", ENDS), (None, 0, 2),
            (["alike"], 0, 2), (0, 2), ("alike", 0, 10 ** 39), (Web([("a", "x")], []), ENDS), ("machine", ((ENDS[0][0], ENDS[0][0]),)),
        ]:
            self.same(self.fresh(judge_wish, [path(3)], wish, value), ("form",))
        self.same(judge_wish([path(3)], wish, ("alike", 0, 2)), None)
        self.same(judge_wish([path(3)], wish, ("alike", 0, 1)), ("apart",))
        self.same(judge_wish([path(3)], wish, ("alike", 1, 2)), ("same",))
        self.same(judge_wish([path(3)], [], ("alike", 0, 1)), ("form",))

    def test_great_webs(self):
        webs = [copies(path(5), 48)[0], copies(path(4), 60)[0], copies(ring(3), 80)[0]]
        wish = [(at - at // 3 * 3, f"p{at}", "end") for at in range(36)]
        self.same(judge_wish(webs, wish, ("machine", ENDS)), ("letter", 1))
        self.same(judge_wish(webs, [(0, "p0", "a"), (0, "p5", "b")], ("alike", 0, 1)), None)


class FirstTest(Checks, unittest.TestCase):
    """Point 8.5."""

    def test_as_the_point_tells_it(self):
        for web in random_webs(225, 80, most=7) + random_webs(226, 40, most=8, colours="x", kinds=("k",)):
            classes = settled([web])[0]
            wanted = [p for p, number in zip(web.places(), classes) if classes.count(number) == 1]
            self.same(self.fresh(first_places, web), wanted)
            for at, name in enumerate(web.places()):
                machine = self.fresh(first_machine, web, name)
                self.same(machine is None, name not in wanted)
                if machine is not None:
                    letters = plain_run(web, machine)[-1]
                    self.same([is_machine(machine), letters.count(letters[at])], [True, 1])

    def test_examples(self):
        self.same([first_places(path(5)), first_places(path(4)), first_places(path(1))], [["c"], [], ["a"]])
        self.same(first_places(Web([("b", "x"), ("a", "y"), ("c", "z")], [])), ["b", "a", "c"])
        self.same(first_machine(ring(3), "a"), None)

    def test_strange_places(self):
        for value in odd_values() + ["e", "k", "x"]:
            self.refuses(UnknownName, value, first_machine, path(4), value)

    def test_great_webs(self):
        names = [f"p{at}" for at in range(239)]
        web = Web([(name, "x") for name in names], [(p, q, "k", 99) for p, q in zip(names, names[1:])])
        self.same([first_places(web), first_machine(web, "p0")], [["p119"], None])
        letters = run(web, first_machine(web, "p119"))
        self.same(letters.count(letters[119]), 1)


class MarkedTest(Checks, unittest.TestCase):
    """Point 8.6."""

    def test_marked(self):
        web = path(3)
        self.same(self.fresh(marked, web, ["c", "a"]), coloured(web, {"c": "m0", "a": "m1"}))
        self.same(marked(web, ("b",)), coloured(web, {"b": "m0"}))
        self.same(marked(web, []), web)

    def test_marks_that_are_colours_already(self):
        web = Web([("a", "m1"), ("b", "m0"), ("c", "m10"), ("d", "m3"), ("e", "m")], [("a", "b", "k", 1)])
        told = marked(web, ["a", "e", "b", "c"])
        self.same([told.colour(p) for p in told.places()], ["m2", "m5", "m6", "m3", "m4"])
        self.same(told.ties(), web.ties())
        self.same(marked(Web([("a", "m0")], []), ["a"]).colour("a"), "m1")
        for many in range(1, 6):
            web = Web([(name, "m" + str(at)) for at, name in enumerate("abcde"[:many])], [])
            told = marked(web, web.places())
            self.same([told.colour(p) for p in told.places()], ["m" + str(many + at) for at in range(many)])

    def test_errors(self):
        for call in (marked, alike_pair):
            for value in odd_values() + ["d", "x", "k", "m0"]:
                self.refuses(UnknownName, value, call, path(3), ["a", "a", value])
                self.refuses(UnknownName, value, call, path(3), (value, "a", "zz"))
            self.refuses(TwiceTold, "a", call, path(3), ["b", "a", "c", "a", "b"])
            self.refuses(TwiceTold, "b", call, path(3), ["b", "b", "a", "a"])

    def test_alike_pair(self):
        source = random.Random(228)
        for web in random_webs(229, 60) + random_webs(230, 40, most=8, colours="x", kinds=("k",)):
            names = source.sample(web.places(), source.randint(0, len(web)))
            classes = plain_classes([marked(web, names)])
            pairs = [(p, q) for i, p in enumerate(web.places()) for q in web.places()[i + 1:]
                     if classes[(0, p)] == classes[(0, q)]]
            self.same(self.fresh(alike_pair, web, names), pairs[0] if pairs else None)
        self.same(alike_pair(ring(4), ["b"]), ("a", "c"))
        self.same(alike_pair(ring(4), []), ("a", "b"))
        self.same(alike_pair(Web([("a", "x"), ("b", "m0")], []), ["a"]), None)

    def test_fewest_marks(self):
        webs = random_webs(231, 40) + random_webs(232, 25, most=8, colours="x", kinds=("k",))
        webs += [ring(8), path(8), copies(path(2), 4)[0], Web([(name, "x") for name in "abcdefgh"], []), path(1)]
        webs += [beside([ring(4), ring(3)])[0], Web([("a", "m0"), ("b", "m0"), ("c", "m1"), ("d", "m1")], [])]
        for web in webs:
            names = self.fresh(fewest_marks, web)
            self.same([alike_pair(web, names), type(names)], [None, list])
            fewer = [list(some) for many in range(len(names)) for some in itertools.combinations(web.places(), many)]
            for some in fewer:
                classes = plain_settled_row(marked(web, some))
                self.assertLess(len(set(classes)), len(web))
        self.same([len(fewest_marks(web)) for web in webs[-7:]], [2, 1, 4, 7, 0, 4, 2])


def plain_settled_row(web):
    return plain_rounds([web], len(web))[-1][0]


if __name__ == "__main__":
    unittest.main()
