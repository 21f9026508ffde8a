"""Points 7.1 to 7.3."""

import random
import unittest

from namelessly.errors import BadName, BadNumber, BadSaying, UnknownName
from namelessly.sayings import (
    all_of, denied, depth, either_of, holds_at, said_at, some_of, tidied,
)
from namelessly.webs import Web, copies
from tests.support import (
    Checks, WORDS, odd_values, path, plain_depth, plain_truth, random_saying, random_webs, ring,
)

RED = (("is", "red"),)
WEB = Web([("a", "red"), ("b", "red"), ("c", "blue")], [("a", "b", "x", 1), ("b", "c", "x", 2)])

# Each call that takes a saying, with the saying left out.
CALLS = [
    depth, denied, tidied, lambda saying: holds_at(WEB, saying), lambda saying: said_at(WEB, "a", saying),
    lambda saying: some_of(1, "x", saying), lambda saying: all_of([RED, saying, ()]), lambda saying: all_of((saying,)),
    lambda saying: either_of([RED, RED, saying, []]), lambda saying: either_of((saying, RED)),
]

IS = ("is", "red")
WRONG = [(value, 0) for value in odd_values()] + [
    ([IS], 0), (IS, 0), ((["is", "red"],), 0), ((("is", "Red"),), 0), ((("is", ""),), 0), ((("is", None),), 0),
    ((("is", ["red"]),), 0), ((("is",),), 0), ((("is", "red", "red"),), 0), ((("Is", "red"),), 0), (((True, "red"),), 0),
    (((["is"], "red"),), 0), ((("not", 0),), 0), ((("some", 1, "x", 0),), 0), ((("all", (0,)),), 0), ((("all", []),), 0),
    ((("all", None),), 0), ((("all",),), 0), ((("all", (), ()),), 0), ((("all", ""),), 0), ((("all", {}),), 0), (((),), 0),
    ((IS, ("not", 1)), 1), ((IS, ("not", -1)), 1), ((IS, ("not", False)), 1), ((IS, ("not", "0")), 1),
    ((IS, ("not", 0, 0)), 1), ((IS, ("not",)), 1), ((IS, ["not", 0]), 1), ((IS, ("not", (0,))), 1), ((IS, ("not", None)), 1),
    ((IS, ("all", (0, 0))), 1), ((IS, ("all", [0])), 1), ((IS, ("all", (1,))), 1), ((IS, ("all", (-1,))), 1),
    ((IS, ("all", (False,))), 1), ((IS, ("all", 0)), 1), ((IS, ("all", (0, 1))), 1), ((IS, ("all", ("0",))), 1),
    ((IS, ("all", (None,))), 1), ((IS, IS, ("all", (1, 0))), 2), ((IS, IS, ("all", (0, True))), 2),
    ((IS, IS, ("all", (0, 1, 1))), 2), ((IS, IS, IS, ("all", (0, 2, 1))), 3), ((IS, ("some", 0, "x", 0)), 1),
    ((IS, ("some", -1, "x", 0)), 1), ((IS, ("some", True, "x", 0)), 1), ((IS, ("some", "1", "x", 0)), 1),
    ((IS, ("some", 1, "X", 0)), 1), ((IS, ("some", 1, 1, 0)), 1), ((IS, ("some", 1, "x", 1)), 1),
    ((IS, ("some", 1, "x", -1)), 1), ((IS, ("some", 1, "x", False)), 1), ((IS, ("some", 1, "x")), 1),
    ((IS, ("some", 1, "x", 0, 0)), 1), ((IS, ("some", None, "x", 0)), 1), ((IS, ("some", 1, ["x"], 0)), 1),
    ((IS, ("any", (0,))), 1), ((IS, 7), 1), ((IS, None), 1), ((IS, "is red"), 1), ((IS, IS), 0), ((IS, IS, ("not", 1)), 0),
    ((IS, IS, ("not", 0)), 1), ((IS, IS, IS, ("all", (0, 2))), 1), ((IS, ("not", 0), IS), 1), ((IS, ("all", ())), 0),
    # A line that is named only by a line that is not named itself; a wrong form behind a line that is not named.
    ((IS, ("not", 0), ("is", "blue")), 1), ((IS, IS, IS, 7), 3), ((IS, IS, ("not", 2)), 2),
]


def some_sayings(seed, many, **more):
    source = random.Random(seed)
    return [random_saying(source, **more) for _ in range(many)]


def told(web, saying):
    return [name for name in web.places() if plain_truth(web, saying, name)]


class SayingTest(Checks, unittest.TestCase):
    """Points 7.1 and 7.2."""

    def test_as_the_points_tell_it(self):
        for web in random_webs(120, 40):
            for saying in some_sayings(len(web), 12):
                wanted = told(web, saying)
                self.same(self.fresh(holds_at, web, saying), wanted)
                self.same([self.fresh(said_at, web, name, saying) for name in web.places()],
                          [name in wanted for name in web.places()])
                self.same(self.fresh(depth, saying), plain_depth(saying))

    def test_depth(self):
        some = ("some", 1, "x", 0)
        for saying, wanted in [
            (RED, 0), ((("all", ()),), 0), ((IS, ("not", 0)), 0), ((IS, some), 1), ((IS, some, ("not", 1)), 1),
            ((IS, some, ("some", 9, "y", 1), ("all", (0, 1, 2))), 2), ((IS, some, ("all", (0,)), ("all", (1, 2))), 1),
            ((("all", ()), ("some", 1, "x", 0), ("all", (0,)), ("all", (1, 2))), 1),
            ((IS,) + tuple(("some", 1, "x", at) for at in range(29)), 29),
        ]:
            self.same(depth(saying), wanted)

    def test_equal_lines_are_allowed(self):
        self.same(holds_at(WEB, (IS, IS, ("all", (0, 1)))), ["a", "b"])
        self.same(holds_at(WEB, (IS, ("not", 0), ("not", 0), ("all", (1, 2)))), ["c"])

    def test_counting(self):
        for n, wanted in [(1, ["a", "b", "c"]), (2, ["b", "c"]), (3, ["b"]), (4, []), (10 ** 39, [])]:
            self.same(holds_at(WEB, (("all", ()), ("some", n, "x", 0))), wanted)
        self.same([holds_at(WEB, (IS, ("some", n, "x", 0))) for n in (1, 2, 3)], [["a", "b", "c"], ["c"], []])
        web = Web([("a", "red"), ("b", "red"), ("c", "red")], [("a", "b", "x", 1), ("a", "c", "x", 2), ("a", "b", "y", 5)])
        self.same([holds_at(web, (IS, ("some", n, "x", 0))) for n in (1, 2, 3, 4)], [["a", "b", "c"], ["a", "c"], ["a"], []])

    def test_colours_and_kinds_that_the_web_does_not_have(self):
        self.same(holds_at(WEB, (("is", "green"),)), [])
        self.same(holds_at(WEB, (("is", "green"), ("not", 0))), ["a", "b", "c"])
        self.same(holds_at(WEB, (IS, ("some", 1, "zz", 0))), [])
        self.same(holds_at(WEB, (IS, ("some", 1, "zz", 0), ("not", 1))), ["a", "b", "c"])
        self.same(said_at(WEB, "a", (("is", "green"), ("some", 1, "x", 0), ("not", 1))), True)

    def test_orders(self):
        web = Web([("c", "red"), ("p10", "red"), ("a", "blue"), ("b", "red")], [])
        self.same(holds_at(web, RED), ["c", "p10", "b"])

    def test_what_is_no_saying(self):
        for call in CALLS:
            for value, line in WRONG:
                self.refuses(BadSaying, line, call, value)

    def test_words(self):
        for word in WORDS:
            self.same(depth((("is", word), ("some", 1, word, 0))), 1)

    def test_strange_places_come_first(self):
        for value in odd_values() + ["d", "x", "red"]:
            self.refuses(UnknownName, value, said_at, WEB, value, RED)
            self.refuses(UnknownName, value, said_at, WEB, value, [])

    def test_great_webs(self):
        great, _ = copies(path(5), 48)
        saying = (("is", "x"), ("some", 2, "k", 0), ("some", 2, "k", 1))
        self.same(holds_at(great, saying), [f"p{5 * at + 2}" for at in range(48)])
        self.same(said_at(great, "p237", saying), True)
        long = (("is", "x"),) + tuple(("some", 1, "k", at) for at in range(400))
        self.same([len(holds_at(great, long)), depth(long), depth(tidied(long))], [240, 400, 400])


class MadeTest(Checks, unittest.TestCase):
    """Point 7.3."""

    def setUp(self):
        self.webs = random_webs(121, 12) + [path(3), ring(3)]
        self.sayings = some_sayings(122, 60) + [(("is", "x"),), (("all", ()),)]

    def holding(self, saying):
        """The places of all webs at which a saying holds, by the oracle; it is a saying, too."""
        depth(saying)
        return [(at, name) for at, web in enumerate(self.webs) for name in told(web, saying)]

    def everywhere(self):
        return [(at, name) for at, web in enumerate(self.webs) for name in web.places()]

    def test_denied(self):
        for saying in self.sayings:
            made = self.fresh(denied, saying)
            holding = self.holding(saying)
            self.same(self.holding(made), [spot for spot in self.everywhere() if spot not in holding])
            self.same(plain_depth(made), plain_depth(saying))

    def test_all_of_and_either_of(self):
        source = random.Random(123)
        for _ in range(80):
            chosen = [source.choice(self.sayings) for _ in range(source.randint(1, 4))]
            for call, join in ((all_of, all), (either_of, any)):
                made = self.fresh(call, chosen)
                parts = [self.holding(saying) for saying in chosen]
                self.same(self.holding(made), [spot for spot in self.everywhere() if join(spot in part for part in parts)])
                self.same(plain_depth(made), max(map(plain_depth, chosen)))
                self.same(self.holding(call(tuple(chosen))), self.holding(made))

    def test_empty_lists(self):
        for empty in ([], ()):
            self.same([self.holding(self.fresh(all_of, empty)), self.holding(self.fresh(either_of, empty))],
                      [self.everywhere(), []])
            self.same([depth(all_of(empty)), depth(either_of(empty))], [0, 0])

    def test_one_saying_twice(self):
        for saying in self.sayings[:20]:
            for call in (all_of, either_of):
                self.same(self.holding(call([saying, saying])), self.holding(saying))
                self.same(plain_depth(call([saying, saying])), plain_depth(saying))

    def test_a_saying_within_another(self):
        inner = (("is", "x"), ("some", 1, "k", 0))
        outer = inner + (("not", 1),)
        self.same([holds_at(path(3), all_of([inner, outer])), holds_at(path(3), either_of([outer, inner]))],
                  [[], ["a", "b", "c"]])
        self.same(depth(all_of([outer, inner, (("is", "x"),)])), 1)

    def test_some_of(self):
        source = random.Random(124)
        for saying in self.sayings:
            n, kind = source.randint(1, 4), source.choice(["k", "l", "zz"])
            made = self.fresh(some_of, n, kind, saying)
            self.same(plain_depth(made), plain_depth(saying) + 1)
            wanted = []
            for at, web in enumerate(self.webs):
                ends = told(web, saying)
                wanted += [(at, p) for p in web.places() if sum(web.width(p, q, kind) for q in ends) >= n]
            self.same(self.holding(made), wanted)
        self.same(holds_at(path(3), some_of(2, "k", (("is", "x"),))), ["b"])
        self.same(holds_at(path(3), some_of(10 ** 39, "k", (("is", "x"),))), [])

    def test_some_of_errors(self):
        for value in [value for value in odd_values() if type(value) is not int] + [0, -1, -10 ** 38]:
            self.refuses(BadNumber, value, some_of, value, "K", [])
        for value in odd_values():
            self.refuses(BadName, value, some_of, 1, value, [])
        self.refuses(BadSaying, 0, some_of, 1, "k", [])
        self.refuses(BadSaying, 1, some_of, 1, "k", (IS, 7))

    def test_the_first_entry_that_is_no_saying(self):
        for call in (all_of, either_of):
            self.refuses(BadSaying, 1, call, [RED, (IS, 7), ()])
            self.refuses(BadSaying, 0, call, [RED, (), (IS, 7)])
            self.refuses(BadSaying, 2, call, ((IS, IS, ("not", 2)), [RED]))

    def test_tidied(self):
        for saying in self.sayings + some_sayings(125, 200, most=12, colours="x", kinds=("k",), widest=1):
            made = self.fresh(tidied, saying)
            self.assertEqual(len(made), len(set(made)))
            self.same(self.holding(made), self.holding(saying))
            self.same(plain_depth(made), plain_depth(saying))

    def test_tidied_lines_that_become_equal(self):
        saying = (IS, IS, ("not", 0), ("not", 1), ("all", (0, 2)), ("all", (1, 3)), ("all", (0, 1, 2, 3)),
                  ("all", (4, 5, 6)))
        made = tidied(saying)
        self.assertEqual(len(made), len(set(made)))
        self.same(holds_at(WEB, made), holds_at(WEB, saying))
        for plain in [RED, (("all", ()),), (IS, ("not", 0)), (IS, ("some", 2, "x", 0), ("all", (0, 1)))]:
            self.same(holds_at(WEB, tidied(plain)), holds_at(WEB, plain))

    def test_what_was_made_is_handed_in_again(self):
        saying = (("is", "x"), ("some", 1, "k", 0))
        for _ in range(60):
            saying = either_of([denied(saying), all_of([saying, some_of(1, "k", saying), saying])])
        self.assertEqual(depth(saying), 61)
        self.assertLess(len(saying), 1000)
        self.same([len(holds_at(path(3), saying)) in range(4), len(tidied(saying)) <= len(saying)], [True, True])


if __name__ == "__main__":
    unittest.main()
