"""Points 1.1 to 1.5, with 0.2, 0.3 and 0.4 for them."""

import itertools
import unittest

from namelessly.errors import BadName, BadNumber, BadTie, TooMany, TwiceTold, UnknownName
from namelessly.webs import Web, beside, coloured, components, copies, renamed, within
from tests.support import Checks, ODD_VALUES, WORDS, odd_values, path, random_webs, ring

PLACES = [("b", "red"), ("a", "blue"), ("p10", "red"), ("p2", "red")]
TIES = [("a", "b", "k", 1), ("p2", "b", "k", 2), ("b", "a", "j", 3), ("p10", "p2", "k", 1)]
ORDERED = [("b", "a", "j", 3), ("b", "a", "k", 1), ("b", "p2", "k", 2), ("p10", "p2", "k", 1)]


class MakingTest(Checks, unittest.TestCase):
    """Point 1.1."""

    def test_ties_in_any_order_and_from_either_end(self):
        wanted = Web(PLACES, TIES)
        for ties in itertools.permutations(TIES):
            self.assertEqual(Web(PLACES, list(ties)).ties(), ORDERED)
            turned = [(other, one, kind, width) for one, other, kind, width in ties]
            self.assertTrue(Web(PLACES, turned) == wanted)

    def test_lists_may_be_tuples(self):
        self.assertTrue(Web(tuple(PLACES), tuple(TIES)) == Web(PLACES, TIES))
        self.assertTrue(Web(tuple(PLACES), ()) == Web(PLACES, []))

    def test_words(self):
        for word in WORDS:
            web = Web([(word, word), ("other", word)], [("other", word, word, 10 ** 39)])
            self.same(web.ties(), [(word, "other", word, 10 ** 39)])
            self.same(web.colour(word), word)

    def test_no_places(self):
        for places in ([], ()):
            self.refuses(BadNumber, 0, Web, places, [])
            self.refuses(BadNumber, 0, Web, places, ["no tie"])

    def test_names_and_colours_that_are_no_words(self):
        for value in odd_values():
            self.refuses(BadName, value, Web, [(value, "red")], [])
            self.refuses(BadName, value, Web, [("a", value)], [])
            self.refuses(BadName, value, Web, [("a", "red"), (value, None)], [])
            self.refuses(BadName, value, Web, [("a", "red"), ("b", value), ("", "")], [])

    def test_the_first_bad_name_entry_by_entry(self):
        self.refuses(BadName, "B", Web, [("a", "B"), ("C", "red")], [])
        self.refuses(BadName, "C", Web, [("C", "B"), ("D", "red")], [])

    def test_names_twice(self):
        self.refuses(TwiceTold, "b", Web, [("a", "x"), ("b", "x"), ("b", "y"), ("a", "x")], [])
        self.refuses(TwiceTold, "a", Web, [("a", "x"), ("a", "x")], [])

    def test_the_order_of_the_errors(self):
        self.refuses(BadName, "D", Web, [("a", "x"), ("a", "x"), ("b", "D")], [None])
        self.refuses(TwiceTold, "a", Web, [("a", "x"), ("a", "x")], [None])
        self.refuses(BadTie, 0, Web, [("a", "x"), ("b", "x")], [None])

    def test_whole_ties_of_other_kinds(self):
        good = ("a", "b", "j", 1)
        wrong = odd_values() + [
            ["a", "b", "k", 1], ("a", "b", "k"), ("a", "b", "k", 1, 1), "abk1", {"a": 1, "b": 1, "k": 1, "w": 1},
        ]
        for tie in wrong:
            self.refuses(BadTie, 0, Web, PLACES, [tie, good])
            self.refuses(BadTie, 1, Web, PLACES, [good, tie, None])

    def test_parts_of_ties_of_other_kinds(self):
        for value in odd_values() + ["c", "B"]:
            self.refuses(BadTie, 0, Web, PLACES, [(value, "b", "k", 1)])
            self.refuses(BadTie, 0, Web, PLACES, [("b", value, "k", 1)])
            self.refuses(BadTie, 0, Web, PLACES, [(value, value, "k", 1)])
        for value in odd_values():
            self.refuses(BadTie, 0, Web, PLACES, [("a", "b", value, 1)])
        for value in [True, False, None, 0, -1, -10 ** 39, "1", "", [1], (1,), {1: 1}]:
            self.refuses(BadTie, 0, Web, PLACES, [("a", "b", "k", value)])

    def test_a_tie_to_itself_and_a_tie_twice(self):
        self.refuses(BadTie, 0, Web, PLACES, [("a", "a", "k", 1)])
        self.refuses(BadTie, 1, Web, PLACES, [("a", "b", "k", 1), ("a", "b", "k", 1)])
        self.refuses(BadTie, 2, Web, PLACES, [("a", "b", "k", 1), ("a", "b", "j", 1), ("b", "a", "k", 2), None])

    def test_nothing_that_was_passed_is_kept(self):
        places = list(PLACES)
        ties = list(TIES)
        web = self.fresh(Web, places, ties)
        places.clear()
        ties.append(None)
        self.assertEqual(web.places(), ["b", "a", "p10", "p2"])
        self.assertEqual(web.ties(), ORDERED)


class AskingTest(Checks, unittest.TestCase):
    """Point 1.2."""

    def setUp(self):
        self.web = Web(PLACES, TIES)

    def test_lists(self):
        self.same(self.fresh(self.web.places), ["b", "a", "p10", "p2"])
        self.same(self.fresh(self.web.ties), ORDERED)
        self.same(self.fresh(self.web.kinds), ["j", "k"])
        self.same(self.fresh(self.web.colours), ["blue", "red"])

    def test_words_ascend_as_strings(self):
        web = Web([("a", "p2"), ("b", "p10")], [("a", "b", "k2", 1), ("a", "b", "k10", 1)])
        self.assertEqual((web.kinds(), web.colours()), (["k10", "k2"], ["p10", "p2"]))
        self.assertEqual([tie[2] for tie in web.ties()], ["k10", "k2"])
        words = ["p9", "z", "b", "p10", "a", "p2", "ab", "c"]
        web = Web([(word, word) for word in words], [("z", "b", word, 1) for word in words])
        self.assertEqual(web.colours(), ["a", "ab", "b", "c", "p10", "p2", "p9", "z"])
        self.assertEqual(web.kinds(), web.colours())
        self.assertEqual([tie[2] for tie in web.ties()], web.kinds())

    def test_a_place_alone(self):
        web = Web([("a", "x")], [])
        self.assertEqual((web.places(), web.ties(), web.kinds(), web.colours()), (["a"], [], [], ["x"]))
        self.assertEqual((len(web), web.width("a", "a", "k"), web.colour("a")), (1, 0, "x"))

    def test_colour(self):
        self.assertEqual([self.web.colour(name) for name in self.web.places()], ["red", "blue", "red", "red"])
        for value in odd_values() + ["c", "red", "k"]:
            self.refuses(UnknownName, value, self.web.colour, value)

    def test_width(self):
        self.assertEqual([self.web.width("b", "a", "j"), self.web.width("a", "b", "j")], [3, 3])
        self.assertEqual([self.web.width("b", "p2", "k"), self.web.width("p2", "b", "k")], [2, 2])
        self.assertEqual([self.web.width("b", "p10", "k"), self.web.width("b", "p2", "j")], [0, 0])
        for name in self.web.places():
            self.same(self.web.width(name, name, "k"), 0)

    def test_width_of_any_kind(self):
        for value in odd_values() + ["zz", "a", "b"]:
            self.same(self.web.width("a", "b", value), 0)
            self.same(self.web.width("a", "a", value), 0)

    def test_width_of_strange_places(self):
        for value in odd_values() + ["c", "red", "k"]:
            self.refuses(UnknownName, value, self.web.width, value, "a", "k")
            self.refuses(UnknownName, value, self.web.width, "a", value, [])
            self.refuses(UnknownName, value, self.web.width, value, "zz", "k")
            self.refuses(UnknownName, value, self.web.width, value, value, "k")

    def test_in_and_len(self):
        for name in self.web.places():
            self.assertIs(name in self.web, True)
        for value in odd_values() + ["c", "red", "k", "B"]:
            self.assertIs(value in self.web, False)
        self.same(len(self.web), 4)

    def test_equal(self):
        self.assertIs(self.web == Web(PLACES, ORDERED), True)
        self.assertIs(self.web != Web(PLACES, ORDERED), False)
        for other in [
            Web([("b", "blue")] + PLACES[1:], TIES),
            Web(PLACES, TIES[:-1] + [("p10", "p2", "k", 2)]),
            Web(PLACES, TIES[:-1] + [("p10", "p2", "j", 1)]),
            Web(PLACES, TIES[:-1] + [("p10", "a", "k", 1)]),
            Web(PLACES, TIES[:-1]),
            Web(PLACES[::-1], TIES),
            Web(PLACES + [("c", "red")], TIES),
            renamed(self.web, {"a": "c"}),
        ]:
            self.assertIs(self.web == other, False)
            self.assertIs(other == self.web, False)
            self.assertIs(self.web != other, True)

    def test_the_order_of_places_alone(self):
        one = Web([("a", "x"), ("b", "x")], [])
        self.assertFalse(one == Web([("b", "x"), ("a", "x")], []))
        self.assertTrue(one == Web([("a", "x"), ("b", "x")], []))

    def test_no_other_value_is_equal(self):
        for value in ODD_VALUES + [self.web.places(), (PLACES, TIES), object()]:
            self.assertIs(self.web == value, False)
            self.assertIs(value == self.web, False)


class ComponentsTest(Checks, unittest.TestCase):
    """Point 1.3."""

    def test_orders(self):
        web = Web([(name, "x") for name in "cabed"], [("d", "c", "k", 1), ("b", "e", "j", 2)])
        self.same(self.fresh(components, web), [["c", "d"], ["a"], ["b", "e"]])
        self.same(self.fresh(components, Web([("a", "x")], [])), [["a"]])

    def test_through_further_places_and_any_kinds(self):
        web = Web([(name, "x") for name in "abcde"], [("a", "e", "k", 1), ("e", "b", "j", 1), ("d", "b", "k", 1)])
        self.assertEqual(components(web), [["a", "b", "d", "e"], ["c"]])
        self.assertEqual(components(path(5)), [["a", "b", "c", "d", "e"]])
        self.assertEqual(components(Web([(name, "x") for name in "ba"], [])), [["b"], ["a"]])

    def test_great_ones(self):
        self.assertEqual(len(components(copies(ring(5), 48)[0])), 48)
        long = Web([(f"p{at}", "x") for at in range(240)], [(f"p{at}", f"p{at + 1}", "k", 1) for at in range(239)])
        self.assertEqual(components(long), [long.places()])


class ChangedTest(Checks, unittest.TestCase):
    """Point 1.4."""

    def setUp(self):
        self.web = Web(PLACES, TIES)

    def test_renamed(self):
        web = self.fresh(renamed, self.web, {"p2": "q", "b": "zz9"})
        self.same(web.places(), ["zz9", "a", "p10", "q"])
        self.same(web.ties(), [("zz9", "a", "j", 3), ("zz9", "a", "k", 1), ("zz9", "q", "k", 2), ("p10", "q", "k", 1)])
        self.same([web.colour(name) for name in web.places()], ["red", "blue", "red", "red"])
        self.assertEqual(self.web.places(), ["b", "a", "p10", "p2"])
        self.assertTrue(renamed(self.web, {}) == self.web)

    def test_exchanged_names(self):
        web = renamed(self.web, {"a": "b", "b": "a"})
        self.same(web.places(), ["a", "b", "p10", "p2"])
        self.same([web.colour("a"), web.colour("b"), web.width("a", "p2", "k"), web.width("b", "p2", "k")],
                  ["red", "blue", 2, 0])
        web = renamed(self.web, {"a": "b", "b": "p10", "p10": "a"})
        self.same(web.places(), ["p10", "b", "a", "p2"])
        self.same(web.width("a", "p2", "k"), 1)

    def test_renamed_keys_that_are_no_places(self):
        for key in ["c", "", 0, 1, None, True, -1, (), ("a",), ("a", (1, None)), "A"]:
            self.refuses(UnknownName, key, renamed, self.web, {"a": "B", key: "z", "none": "y"})
            self.refuses(UnknownName, key, coloured, self.web, {"a": "B", key: "z", "none": "y"})

    def test_new_names_of_any_kind(self):
        for value in odd_values():
            self.refuses(BadName, value, renamed, self.web, {"p10": value, "a": "b"})
            self.refuses(BadName, value, renamed, self.web, {"p2": [], "p10": value})

    def test_new_names_twice(self):
        self.refuses(TwiceTold, "a", renamed, self.web, {"b": "a"})
        self.refuses(TwiceTold, "b", renamed, self.web, {"p2": "a", "a": "b"})
        self.refuses(TwiceTold, "q", renamed, self.web, {"p2": "q", "p10": "q"})

    def test_coloured(self):
        web = self.fresh(coloured, self.web, {"p2": "green", "b": "blue"})
        self.same([web.colour(name) for name in web.places()], ["blue", "blue", "red", "green"])
        self.same([web.places(), web.ties()], [self.web.places(), ORDERED])
        self.assertTrue(coloured(self.web, {}) == self.web)

    def test_new_colours_of_any_kind(self):
        for value in odd_values():
            self.refuses(BadName, value, coloured, self.web, {"p2": [], "a": value, "b": "green"})
            self.refuses(BadName, value, coloured, self.web, {"p2": value})


class BesideTest(Checks, unittest.TestCase):
    """Point 1.5."""

    def test_beside(self):
        one = Web([("b", "x"), ("a", "y")], [("a", "b", "k", 2)])
        other = Web([("p0", "z")], [])
        web, dicts = self.fresh(beside, [one, other, one])
        self.same(dicts, [{"b": "p0", "a": "p1"}, {"p0": "p2"}, {"b": "p3", "a": "p4"}])
        self.assertEqual([list(names) for names in dicts], [["b", "a"], ["p0"], ["b", "a"]])
        self.same(web.places(), ["p0", "p1", "p2", "p3", "p4"])
        self.same([web.colour(name) for name in web.places()], ["x", "y", "z", "x", "y"])
        self.same(web.ties(), [("p0", "p1", "k", 2), ("p3", "p4", "k", 2)])
        self.same(type(self.fresh(beside, (one,))).__name__, "tuple")
        self.assertEqual(beside((one,))[1], [{"b": "p0", "a": "p1"}])

    def test_beside_has_no_cap(self):
        great = copies(path(5), 48)[0]
        web, dicts = beside([great, great, great])
        self.assertEqual((len(web), web.places()[-1], dicts[2]["p0"]), (720, "p719", "p480"))

    def test_names_ascend_by_number(self):
        web = copies(path(4), 3)[0]
        self.assertEqual(web.places(), [f"p{at}" for at in range(12)])
        self.assertEqual(web.ties()[-1], ("p10", "p11", "k", 1))

    def test_copies(self):
        web, dicts = self.fresh(copies, Web([("b", "x"), ("a", "y")], [("a", "b", "k", 2)]), 2)
        self.same(dicts, [{"b": "p0", "a": "p1"}, {"b": "p2", "a": "p3"}])
        self.same(web.ties(), [("p0", "p1", "k", 2), ("p2", "p3", "k", 2)])
        self.same(type(copies(path(2), 1)).__name__, "tuple")
        for one in random_webs(1, 20):
            self.assertTrue(copies(one, 3)[0] == beside([one, one, one])[0])
            self.assertEqual(copies(one, 3)[1], beside([one, one, one])[1])

    def test_many_that_is_no_number_from_1(self):
        for value in [True, False, None, 0, -1, -10 ** 39, "2", "", [2], (2,), {2: 2}]:
            self.refuses(BadNumber, value, copies, path(2), value)
            self.refuses(BadNumber, value, copies, path(2), value, most_places=1)

    def refuses_many(self, *args, **more):
        with self.assertRaises(TooMany):
            copies(*args, **more)

    def test_the_cap(self):
        self.assertEqual(len(copies(path(5), 48)[0]), 240)
        self.assertEqual(len(copies(path(1), 240)[0]), 240)
        self.refuses_many(path(5), 49)
        self.refuses_many(path(1), 241)
        self.assertEqual(len(copies(path(3), 4, most_places=12)[0]), 12)
        self.refuses_many(path(3), 4, most_places=11)
        self.assertEqual(len(copies(path(1), 1, most_places=1)[0]), 1)
        self.refuses_many(path(2), 1, most_places=1)

    def test_a_great_number_is_not_made(self):
        self.refuses_many(path(1), 10 ** 39)
        self.refuses_many(path(5), 10 ** 9, most_places=1)

    def test_within(self):
        web = Web(PLACES, TIES)
        part = self.fresh(within, web, ["p2", "b", "p2", "p10"])
        self.assertTrue(part == Web([("b", "red"), ("p10", "red"), ("p2", "red")], [("b", "p2", "k", 2), TIES[3]]))
        self.assertTrue(within(web, tuple(web.places()[::-1])) == web)
        self.assertTrue(within(web, ["a"]) == Web([("a", "blue")], []))

    def test_within_of_strange_places(self):
        web = Web(PLACES, TIES)
        for value in odd_values() + ["c", "red"]:
            self.refuses(UnknownName, value, within, web, ["a", value, "zz"])
            self.refuses(UnknownName, value, within, web, (value,))
        self.refuses(BadNumber, 0, within, web, [])
        self.refuses(BadNumber, 0, within, web, ())


if __name__ == "__main__":
    unittest.main()
