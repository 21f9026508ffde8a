"""Point 3.6."""

import random
import unittest

from namelessly.errors import BadNumber, TooMany
from namelessly.foldings import is_spread, judge_folding, places_over
from namelessly.turns import turned_copies
from namelessly.webs import Web, components, copies
from tests.support import Checks, odd_values, path, random_webs, ring, turned

# The order of the places is not that of their names, nor that in which the ties are handed in.
WEB = Web([("b", "y"), ("a", "x"), ("c", "y")], [("c", "a", "k", 3), ("c", "b", "j", 2), ("b", "a", "k", 1)])


class TurnedCopiesTest(Checks, unittest.TestCase):

    def test_names_order_colours_ties_and_folding(self):
        self.same(WEB.ties(), [("b", "a", "k", 1), ("b", "c", "j", 2), ("a", "c", "k", 3)])
        over, folding = self.fresh(turned_copies, WEB, 2, [0, 1, 1])
        wanted = Web(
            [("p0", "y"), ("p1", "y"), ("p2", "x"), ("p3", "x"), ("p4", "y"), ("p5", "y")],
            [("p0", "p2", "k", 1), ("p1", "p3", "k", 1), ("p0", "p5", "j", 2), ("p1", "p4", "j", 2),
             ("p2", "p5", "k", 3), ("p3", "p4", "k", 3)],
        )
        self.same(over, wanted)
        self.same(folding, {"p0": "b", "p1": "b", "p2": "a", "p3": "a", "p4": "c", "p5": "c"})

    def test_a_turn_goes_from_the_earlier_place_to_the_later_one(self):
        web = Web([("z", "x"), ("a", "x")], [("a", "z", "k", 1)])
        over, _ = turned_copies(web, 3, [1])
        self.same(over.ties(), [("p0", "p4", "k", 1), ("p1", "p5", "k", 1), ("p2", "p3", "k", 1)])
        for turn in (-2, 4, 10 ** 39 + 2 - 10 ** 39 % 3, -3 * 10 ** 38 - 2):
            self.same(turned_copies(web, 3, [turn])[0].ties(), turned_copies(web, 3, [turn % 3])[0].ties())
        self.same(turned_copies(web, 3, [-2])[0], over)
        self.same(turned_copies(web, 3, [10])[0], over)
        self.same(turned_copies(web, 3, [-1])[0].ties(),
                  [("p0", "p5", "k", 1), ("p1", "p3", "k", 1), ("p2", "p4", "k", 1)])

    def test_as_the_point_tells_it(self):
        source = random.Random(30)
        for web in random_webs(31, 60):
            many = source.randint(1, 5)
            turns = [source.choice([0, 1, -1, source.randint(-50, 50), 10 ** 39, -10 ** 38 - 7]) for _ in web.ties()]
            over, folding = self.fresh(turned_copies, web, many, turns)
            wanted, led = turned(web, many, turns)
            self.same([over, folding], [wanted, led])
            self.same(turned_copies(web, many, tuple(turns))[0], wanted)
            self.same(judge_folding(over, web, folding), None)
            self.same(is_spread(over, web, folding), True)
            self.same(list(places_over(over, web, folding).values()),
                      [[f"p{at * many + u}" for u in range(many)] for at in range(len(web))])

    def test_one_copy(self):
        over, folding = turned_copies(WEB, 1, [5, -3, 0])
        self.same([tie[2:] for tie in over.ties()], [tie[2:] for tie in WEB.ties()])
        self.same(folding, {"p0": "b", "p1": "a", "p2": "c"})
        self.same(turned_copies(Web([("a", "x")], []), 3, [])[1], {"p0": "a", "p1": "a", "p2": "a"})

    def test_without_turns_they_are_copies_side_by_side(self):
        for web in random_webs(32, 30):
            beside, dicts = copies(web, 3)
            over, _ = turned_copies(web, 3, [0] * len(web.ties()))
            new = {}
            for u, names in enumerate(dicts):
                new.update({names[name]: f"p{3 * at + u}" for at, name in enumerate(web.places())})
            self.same(sorted((new[name], beside.colour(name)) for name in beside.places()),
                      sorted((name, over.colour(name)) for name in over.places()))
            self.same(sorted(sorted([new[p], new[q]]) + [kind, width] for p, q, kind, width in beside.ties()),
                      sorted(sorted([p, q]) + [kind, width] for p, q, kind, width in over.ties()))

    def test_two_rings_of_three_or_one_of_six(self):
        for turns, sizes in [([0, 0, 0], [3, 3]), ([0, 1, 0], [6]), ([1, 0, 0], [6]), ([0, 0, 7], [6]),
                             ([1, 1, 0], [3, 3]), ([1, 1, 1], [6]), ([1, 0, 1], [3, 3]), ([2, -4, 8], [3, 3])]:
            over, _ = turned_copies(ring(3), 2, turns)
            self.same([len(part) for part in components(over)], sizes)
            for name in over.places():
                self.same(sum(over.width(name, end, "k") for end in over.places()), 2)

    def test_copies_of_copies(self):
        over, folding = turned_copies(ring(3), 2, [0, 1, 0])
        top, lift = self.fresh(turned_copies, over, 3, [1, 0, 2, 0, 0, 0])
        self.same([judge_folding(top, over, lift), is_spread(top, over, lift), len(top)], [None, True, 18])
        self.same(judge_folding(top, ring(3), {name: folding[lift[name]] for name in top.places()}), None)

    def test_what_is_no_integer(self):
        for value in [value for value in odd_values() if type(value) is not int]:
            self.refuses(BadNumber, 0, turned_copies, WEB, 2, [value, value, value])
            self.refuses(BadNumber, 2, turned_copies, WEB, 2, (0, -1, value))
            self.refuses(BadNumber, 4, turned_copies, WEB, 10 ** 39, [0, 1, 2, 3, value, 5])
        self.refuses(BadNumber, 1, turned_copies, WEB, 2, [1, True])

    def test_wrong_lengths(self):
        for length in (0, 1, 2, 4, 5):
            self.refuses(BadNumber, length, turned_copies, WEB, 2, [0] * length)
            self.refuses(BadNumber, length, turned_copies, WEB, 241, (7,) * length)
        self.refuses(BadNumber, 1, turned_copies, Web([("a", "x")], []), 2, [0])

    def test_the_cap(self):
        self.assertEqual(len(turned_copies(WEB, 80, [0, 1, 2])[0]), 240)
        for many in (81, 10 ** 9, 10 ** 39):
            self.assert_too_many(WEB, many, [0, 0, 0])
        self.assertEqual(len(turned_copies(WEB, 2, [0, 0, 0], most_places=6)[0]), 6)
        self.assert_too_many(WEB, 2, [0, 0, 0], most_places=5)
        self.assert_too_many(WEB, 1, [0, 0, 0], most_places=1)
        self.assertEqual(len(turned_copies(path(1), 240, [])[0]), 240)
        self.assert_too_many(path(1), 241, [])

    def assert_too_many(self, *args, **more):
        with self.assertRaises(TooMany):
            turned_copies(*args, **more)


if __name__ == "__main__":
    unittest.main()
