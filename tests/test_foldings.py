"""Points 3.1 to 3.5."""

import itertools
import random
import unittest

from namelessly.balanced import judge_balanced, table
from namelessly.errors import BadNumber, BadTie, UnknownName
from namelessly.foldings import (
    behind, is_onto, is_spread, judge_folding, led_down, led_up, places_over, way_product, ways_up,
)
from namelessly.webs import Web, beside, coloured, copies, renamed
from tests.support import Checks, odd_values, path, plain_fault, random_webs, ring, turned

THREE = ring(3)
SIX = ring(6)
ROUND = {"a": "a", "b": "b", "c": "c", "d": "a", "e": "b", "f": "c"}
# Two components, and a web that lies over the first one alone.
PARTS = Web([("b", "x"), ("a", "x"), ("c", "y")], [("a", "b", "k", 2)])
RING_TO_PARTS = {"a": "a", "b": "b", "c": "a", "d": "b"}


def some_foldings(seed, many):
    """Tuples (over, web, folding)."""
    source = random.Random(seed)
    found = [(SIX, THREE, ROUND), (ring(4), PARTS, RING_TO_PARTS), (ring(4), path(2, width=2), RING_TO_PARTS)]
    for web in random_webs(seed, many):
        copied = source.randint(1, 4)
        over, folding = turned(web, copied, [source.randint(-5, 5) for _ in web.ties()])
        found.append((over, web, folding))
    return found


class JudgeTest(Checks, unittest.TestCase):
    """Point 3.1."""

    def test_all_small_dicts(self):
        webs = random_webs(20, 12, most=3, colours="xy", widest=2) + [path(2, width=2), path(3), PARTS]
        for over, web in itertools.product(webs, repeat=2):
            for ends in itertools.product(web.places(), repeat=len(over)):
                value = dict(zip(over.places(), ends))
                self.same(judge_folding(over, web, value), plain_fault(over, web, value))

    def test_foldings_and_those_that_were_changed(self):
        source = random.Random(21)
        for over, web, folding in some_foldings(22, 40):
            self.same(self.fresh(judge_folding, over, web, folding), None)
            for name in over.places():
                changed = dict(folding)
                changed[name] = source.choice(web.places())
                self.same(judge_folding(over, web, changed), plain_fault(over, web, changed))
                del changed[name]
                self.same(self.fresh(judge_folding, over, web, changed), ("missing", name))
                self.same(judge_folding(over, web, {**changed, name: "zz"}), ("unknown", name))

    def test_the_order_of_the_keys_does_not_count(self):
        turned_about = dict(reversed(list(ROUND.items())))
        self.same(judge_folding(SIX, THREE, turned_about), None)

    def test_form(self):
        wrong = [value for value in odd_values() if value != {} and value != {"a": "b"}]
        for value in wrong + [
            [ROUND], (ROUND,), list(ROUND.items()), {**ROUND, "a": 1}, {**ROUND, "a": None}, {**ROUND, "a": ["a"]},
            {**ROUND, 1: "a"}, {**ROUND, None: "a"}, {**ROUND, ("a",): "a"}, {**ROUND, "zz": True}, {0: "a"}, "a",
        ]:
            self.same(self.fresh(judge_folding, SIX, THREE, value), ("form",))
        self.same(judge_folding(SIX, THREE, {}), ("missing", "a"))
        self.same(judge_folding(SIX, THREE, {"a": "b"}), ("missing", "b"))

    def test_the_sequence_of_the_faults(self):
        over = renamed(coloured(SIX, {"e": "y"}), {"a": "zz", "b": "y"})
        good = {"zz": "a", "y": "b", "c": "c", "d": "a", "e": "b", "f": "c"}
        self.same(judge_folding(over, THREE, good), ("colour", "e"))
        self.same(judge_folding(over, THREE, {**good, "f": "p"}), ("unknown", "f"))
        self.same(judge_folding(over, THREE, {**good, "y": "p", "zz": "q"}), ("unknown", "zz"))
        self.same(judge_folding(over, THREE, {**good, "f": "p", "p2": "a", "p10": "a"}), ("strange", "p10"))
        self.same(judge_folding(over, THREE, {**good, "f": "p", "A b": "", "p10": "a"}), ("strange", "A b"))
        self.same(judge_folding(over, THREE, {"zz": "p", "p2": "a", "f": "a", "c": "c"}), ("missing", "y"))
        self.same(judge_folding(over, THREE, {**good, "d": "b"}), ("colour", "e"))

    def test_widths(self):
        self.same(judge_folding(path(2), path(2), {"a": "b", "b": "a"}), None)
        self.same(judge_folding(path(2), path(2), {"a": "a", "b": "a"}), ("width", "a", "a", "k"))
        self.same(judge_folding(path(2), path(2, width=2), {"a": "a", "b": "b"}), ("width", "a", "b", "k"))
        self.same(judge_folding(path(2), path(2, kind="j"), {"a": "a", "b": "b"}), ("width", "a", "b", "j"))
        self.same(judge_folding(path(2, kind="j"), path(2), {"a": "a", "b": "b"}), ("width", "a", "b", "j"))
        one = Web([("a", "x")], [])
        self.same(judge_folding(path(2), one, {"a": "a", "b": "a"}), ("width", "a", "a", "k"))
        self.same(judge_folding(one, path(2), {"a": "b"}), ("width", "a", "a", "k"))
        web = Web([("b", "x"), ("a", "x")], [("a", "b", "p2", 1), ("a", "b", "p10", 1)])
        self.same(judge_folding(Web([("c", "x")], []), web, {"c": "b"}), ("width", "c", "a", "p10"))

    def test_whole_components_left_out(self):
        self.same(judge_folding(ring(4), PARTS, RING_TO_PARTS), None)
        self.same(judge_folding(Web([("q", "y")], []), PARTS, {"q": "c"}), None)

    def test_great_webs(self):
        over, dicts = copies(path(5), 48)
        folding = {new: old for names in dicts for old, new in names.items()}
        self.same(judge_folding(over, path(5), folding), None)
        self.same(judge_folding(over, path(5), {**folding, "p239": "c"}), ("width", "p238", "c", "k"))
        self.same(judge_folding(over, over, {name: name for name in over.places()}), None)
        self.same(is_spread(over, path(5), folding), True)
        self.same(len(led_up(over, path(5), folding, [0, 1, 2, 1, 0])), 240)
        self.same(led_down(over, path(5), folding, [0, 1, 2, 1, 0] * 48), [0, 1, 2, 1, 0])
        way = ("a",) + ("k", "b", "k", "a") * 4
        self.same(ways_up(over, path(5), folding, way, "p235"), [("p235",) + ("k", "p236", "k", "p235") * 4])


class OverTest(Checks, unittest.TestCase):
    """Points 3.2 and 3.3."""

    def test_as_the_points_tell_it(self):
        for over, web, folding in some_foldings(23, 40):
            wanted = {place: [name for name in over.places() if folding[name] == place] for place in web.places()}
            told = self.fresh(places_over, over, web, folding)
            self.same(told, wanted)
            self.assertEqual(list(told), web.places())
            many = [len(names) for names in wanted.values()]
            self.same(self.fresh(is_onto, over, web, folding), min(many) > 0)
            self.same(self.fresh(is_spread, over, web, folding), min(many) > 0 and min(many) == max(many))

    def test_orders(self):
        folding = {"d": "a", "c": "c", "b": "b", "a": "a", "f": "c", "e": "b"}
        self.assertEqual(list(places_over(SIX, THREE, folding).items()),
                         [("a", ["a", "d"]), ("b", ["b", "e"]), ("c", ["c", "f"])])

    def test_components_without_a_place_over_them(self):
        over = ring(4)
        self.same(places_over(over, PARTS, RING_TO_PARTS), {"b": ["b", "d"], "a": ["a", "c"], "c": []})
        self.same([is_onto(over, PARTS, RING_TO_PARTS), is_spread(over, PARTS, RING_TO_PARTS)], [False, False])
        first = Web([("q", "y")], [])
        late = Web([("c", "y"), ("a", "x")], [])
        self.same([is_onto(first, late, {"q": "c"}), is_spread(first, late, {"q": "c"})], [False, False])
        early = Web([("a", "x"), ("c", "y")], [])
        self.same([is_onto(first, early, {"q": "c"}), is_spread(first, early, {"q": "c"})], [False, False])

    def test_more_over_the_one_than_over_the_other(self):
        both, (lone, tied) = beside([Web([("q", "y")], []), ring(4)])
        folding = {lone["q"]: "c", **{tied[name]: RING_TO_PARTS[name] for name in "abcd"}}
        self.same(judge_folding(both, PARTS, folding), None)
        self.same([is_onto(both, PARTS, folding), is_spread(both, PARTS, folding)], [True, False])

    def test_behind(self):
        turn = {"a": "b", "b": "c", "c": "a"}
        told = self.fresh(behind, ROUND, turn)
        self.same(told, {"a": "b", "b": "c", "c": "a", "d": "b", "e": "c", "f": "a"})
        self.same(judge_folding(SIX, THREE, told), None)
        self.assertEqual(list(behind({"z": "a", "b": "b", "a": "a"}, turn)), ["z", "b", "a"])
        self.same(self.fresh(behind, {}, {}), {})
        self.same(behind({}, turn), {})
        self.same(behind({"a": "b"}, {"b": "a", "c": "c", "a": "z"}), {"a": "a"})
        self.same(behind({"A b": "", "": "~"}, {"": "\n", "~": ""}), {"A b": "\n", "": ""})

    def test_behind_of_foldings(self):
        source = random.Random(24)
        for over, web, folding in some_foldings(25, 15):
            top, lift = turned(over, 2, [source.randint(0, 1) for _ in over.ties()])
            self.same(judge_folding(top, web, self.fresh(behind, lift, folding)), None)

    def test_what_is_no_key(self):
        self.refuses(UnknownName, "b", behind, ROUND, {"a": "a"})
        self.refuses(UnknownName, "z", behind, {"q": "a", "p": "z", "o": "y"}, {"a": "a", "q": "p", "p": "o"})
        self.refuses(UnknownName, "p", behind, {"a": "p"}, {})
        self.refuses(UnknownName, "", behind, {"a": ""}, {"a": ""})


class LedTest(Checks, unittest.TestCase):
    """Point 3.4."""

    def test_led_up(self):
        self.same(self.fresh(led_up, SIX, THREE, ROUND, [0, 1, 1]), [0, 1, 1, 0, 1, 1])
        self.same(self.fresh(led_up, SIX, THREE, ROUND, (7, 0, 10 ** 39)), [7, 0, 10 ** 39] * 2)
        self.same(led_up(ring(4), PARTS, RING_TO_PARTS, [1, 2, 3]), [2, 1, 2, 1])

    def test_led_down(self):
        self.same(self.fresh(led_down, SIX, THREE, ROUND, [0, 1, 1, 0, 1, 1]), [0, 1, 1])
        self.same(self.fresh(led_down, SIX, THREE, ROUND, (9, 4, 0, 9, 4, 0)), [9, 4, 0])
        self.same(led_down(SIX, THREE, ROUND, [0, 1, 2, 3, 1, 2]), None)
        self.same(led_down(SIX, THREE, ROUND, [0, 1, 2, 0, 1, 3]), None)
        self.same(led_down(ring(4), PARTS, RING_TO_PARTS, [0, 0, 0, 0]), None)
        self.same(led_down(ring(4), path(2, width=2), RING_TO_PARTS, [3, 5, 3, 5]), [3, 5])

    def test_up_and_down_again(self):
        source = random.Random(26)
        for over, web, folding in some_foldings(27, 40):
            colouring = [source.randint(0, 3) for _ in web.places()]
            up = self.fresh(led_up, over, web, folding, colouring)
            self.same(up, [colouring[web.places().index(folding[name])] for name in over.places()])
            down = self.fresh(led_down, over, web, folding, up)
            self.same(down, colouring if is_onto(over, web, folding) else None)

    def test_balanced_ones(self):
        for colouring in [[0, 0, 0], [1, 0, 1], [0, 1, 2]]:
            up = led_up(SIX, THREE, ROUND, colouring)
            self.same([judge_balanced(SIX, up), table(SIX, up)], [None, table(THREE, colouring)])

    def test_what_is_no_number(self):
        for value in [True, False, None, -1, "0", "", [], [0], (), (0,), {}, {0: 0}, path(1)]:
            self.refuses(BadNumber, 0, led_up, SIX, THREE, ROUND, [value])
            self.refuses(BadNumber, 2, led_up, SIX, THREE, ROUND, [0, 1, value, value, 0])
            self.refuses(BadNumber, 0, led_down, SIX, THREE, ROUND, (value, 0, 0, 0, 0, 0))
            self.refuses(BadNumber, 6, led_down, SIX, THREE, ROUND, [0, 1, 2, 3, 4, 5, value])

    def test_wrong_lengths(self):
        for length in (0, 1, 2, 4, 6, 7):
            self.refuses(BadNumber, length, led_up, SIX, THREE, ROUND, [0] * length)
        for length in (0, 1, 3, 5, 7):
            self.refuses(BadNumber, length, led_down, SIX, THREE, ROUND, (0,) * length)


class WaysTest(Checks, unittest.TestCase):
    """Point 3.5."""

    def setUp(self):
        self.web = Web([("b", "x"), ("a", "x"), ("c", "x")],
                       [("a", "b", "k", 2), ("b", "c", "k", 3), ("a", "b", "j", 5)])

    def test_way_product(self):
        for way, wanted in [(("a",), 1), (("a", "k", "b"), 2), (("b", "k", "a"), 2), (("a", "j", "b", "k", "c"), 15),
                            (("a", "k", "b", "k", "a", "j", "b"), 20), (("b", "k", "c", "k", "b", "k", "c"), 27)]:
            self.same(self.fresh(way_product, self.web, way), wanted)

    def test_strange_ties(self):
        for way, number in [
            (("a", "k", "c"), 0), (("a", "z", "b"), 0), (("a", "k", "z"), 0), (("a", "k", "a"), 0), (("z",), 0),
            (("z", "k", "b"), 0), (("z", "k", "b", "z", "a"), 0), (("a", "k", "b", "k", "z", "k", "b"), 1),
            (("a", "k", "b", "k", "c", "j", "b"), 2), (("a", "k", "b", "j", "c", "zz", "zz"), 1), (("",), 0),
            (("a", "", "b"), 0), (("a", "k", "b", "k", "b"), 1), (("a", "k", "b") + ("k", "a", "k", "b") * 3 + ("k", "z"), 7),
        ]:
            self.refuses(BadTie, number, way_product, self.web, way)
            self.refuses(BadTie, number, ways_up, self.web, self.web, {"a": "a", "b": "b", "c": "c"}, way, "a")
            self.refuses(BadTie, number, ways_up, self.web, self.web, {"a": "a", "b": "b", "c": "c"}, way, ["zz"])

    def test_what_is_no_tuple_of_an_odd_number_of_strings(self):
        same = {"a": "a", "b": "b", "c": "c"}
        for way in [value for value in odd_values() if value != ("a",)] + [
            "a", "akb", ["a"], ["a", "k", "b"], {"a": 1}, ("a", "k"), ("a", "k", "b", "k"), ("a", 1, "b"), (1,), (None,),
            ("a", "k", "b", "k", None), ("a", "k", ["b"]), (("a", "k", "b"),), ("a", "k", "b", "k", "c", "k", True),
        ]:
            self.refuses(BadTie, 0, way_product, self.web, way)
            self.refuses(BadTie, 0, ways_up, self.web, self.web, same, way, "zz")

    def test_starts(self):
        for value in odd_values() + ["b", "c", "e", "f", "z"]:
            self.refuses(UnknownName, value, ways_up, SIX, THREE, ROUND, ("a", "k", "b"), value)
            self.refuses(UnknownName, value, ways_up, SIX, THREE, ROUND, ("a",), value)

    def test_lone_places(self):
        self.same(self.fresh(ways_up, SIX, THREE, ROUND, ("c",), "f"), [("f",)])

    def test_ways_that_go_back(self):
        web = path(2, width=2)
        told = self.fresh(ways_up, ring(4), web, RING_TO_PARTS, ("a", "k", "b", "k", "a"), "c")
        self.same(told, [("c", "k", "b", "k", "a"), ("c", "k", "b", "k", "c"),
                         ("c", "k", "d", "k", "a"), ("c", "k", "d", "k", "c")])

    def test_the_order_is_that_of_the_web(self):
        over = Web([(name, "x") for name in "dbca"],
                   [("a", "b", "k", 1), ("b", "c", "k", 1), ("c", "d", "k", 1), ("d", "a", "k", 1)])
        told = ways_up(over, path(2, width=2), RING_TO_PARTS, ("a", "k", "b", "k", "a"), "a")
        self.same([way[2::2] for way in told], [("d", "c"), ("d", "a"), ("b", "c"), ("b", "a")])

    def test_as_the_point_tells_it(self):
        source = random.Random(28)
        for over, web, folding in some_foldings(29, 40):
            for start in over.places():
                way = (folding[start],)
                for _ in range(source.randint(0, 4)):
                    steps = [(kind, other if one == way[-1] else one)
                             for one, other, kind, _ in web.ties() if way[-1] in (one, other)]
                    if steps:
                        way += source.choice(steps)
                told = self.fresh(ways_up, over, web, folding, way, start)
                wanted = []
                for ends in itertools.product(*[places_over(over, web, folding)[place] for place in way[2::2]]):
                    up = [start]
                    for kind, end in zip(way[1::2], ends):
                        up += [kind, end]
                    if all(over.width(up[at - 1], up[at + 1], up[at]) for at in range(1, len(up), 2)):
                        wanted.append(tuple(up))
                self.same(told, wanted)
                self.same(sum(way_product(over, up) for up in told), way_product(web, way))


if __name__ == "__main__":
    unittest.main()
