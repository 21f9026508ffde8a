"""Points 5.1 to 5.5."""

import math
import random
import unittest

from namelessly.balanced import judge_balanced, table as table_of_sums
from namelessly.errors import BadNumber, UnknownName
from namelessly.overs import over_number, pairs_over, web_over
from namelessly.rounds import settled
from namelessly.turns import turned_copies
from namelessly.webs import Web, copies
from namelessly.weights import (
    added_weights, colours_of, judge_weights, lessened, turned_over, weight_table, weights_behind, weights_of_over,
)
from tests.support import (
    Checks, kin_pairs, odd_values, path, plain_rounds, random_webs, ring, turned, webs_that_are_not_kin,
)

RING = ring(3)
SIX, FOLDING = turned_copies(RING, 2, [0, 1, 0])
ONES = ((1,) * 6,) * 3
STAR = Web([(name, "x") for name in "abcde"], [("a", end, "k", 1) for end in "bcde"])


def plain_fault(one, other, rows):
    """What judge_weights tells of a table of the right form, word by word as point 5.1 does."""
    entry = {(p, q): rows[i][j] for i, p in enumerate(one.places()) for j, q in enumerate(other.places())}
    for p in one.places():
        total = sum(entry[(p, q)] for q in other.places())
        if total == 0 or total != sum(rows[0]):
            return ("rows", p)
    for q in other.places():
        if sum(entry[(p, q)] for p in one.places()) != sum(row[0] for row in rows):
            return ("columns", q)
    for p, q in entry:
        if entry[(p, q)] > 0 and one.colour(p) != other.colour(q):
            return ("colour", p, q)
    for p, q in entry:
        for kind in sorted(set(one.kinds()) | set(other.kinds())):
            first = sum(one.width(p, r, kind) * entry[(r, q)] for r in one.places())
            last = sum(entry[(p, s)] * other.width(s, q, kind) for s in other.places())
            if first != last:
                return ("ties", p, q, kind)
    return None


def some_tables(seed, many):
    """Tuples (one, other, table), the table a right one; not only the one that weight_table tells."""
    source = random.Random(seed)
    found = [(RING, SIX, ONES), (RING, RING, ((0, 1, 2), (2, 0, 1), (1, 2, 0)))]
    for one, other in kin_pairs(seed, many):
        table = weight_table(one, other)
        found.append((one, other, table))
        if over_number(one, other) <= 240:
            also = weights_of_over(one, other, web_over(one, other))
            found.append((one, other, also))
            found.append((one, other, added_weights(table, also)))
    for web in random_webs(seed, many):
        over, folding = turned(web, source.randint(1, 3), [source.randint(0, 2) for _ in web.ties()])
        found.append((web, over, weights_of_over(web, over, (over, folding, {p: p for p in over.places()}))))
    return found


class JudgeTest(Checks, unittest.TestCase):
    """Point 5.1."""

    def test_right_tables(self):
        for one, other, table in some_tables(60, 60):
            self.same(plain_fault(one, other, table), None)
            self.same(self.fresh(judge_weights, one, other, table), None)

    def test_tables_that_were_changed(self):
        source = random.Random(61)
        kinds = set()
        for one, other, table in some_tables(62, 60):
            for _ in range(8):
                rows = [list(row) for row in table]
                for _ in range(source.randint(1, 2)):
                    self.change(source, rows)
                value = tuple(tuple(row) for row in rows)
                fault = plain_fault(one, other, value)
                kinds.add(fault and fault[0])
                self.same(judge_weights(one, other, value), fault)
        self.assertEqual(kinds, {None, "rows", "columns", "colour", "ties"})

    def change(self, source, rows):
        """Other entries: with other sums, or with the same ones, as two places change places."""
        deed = source.randint(0, 3)
        p, r = source.randrange(len(rows)), source.randrange(len(rows))
        q, s = source.randrange(len(rows[0])), source.randrange(len(rows[0]))
        if deed == 0:
            rows[p][q] = source.randint(0, 20)
        elif deed == 1:
            rows[p], rows[r] = rows[r], rows[p]
        elif deed == 2:
            for row in rows:
                row[q], row[s] = row[s], row[q]
        else:
            rows[p][q], rows[p][s] = rows[p][s], rows[p][q]

    def test_webs_that_are_not_kin_have_no_table(self):
        for one, other in webs_that_are_not_kin(63, 20):
            ones = ((len(one) * len(other),) * len(other),) * len(one)
            fault = plain_fault(one, other, ones)
            self.assertIn(fault[0], ("colour", "ties"))
            self.same(judge_weights(one, other, ones), fault)

    def test_form(self):
        for value in odd_values() + [
            list(ONES), ONES[:2], ONES + ONES[:1], tuple(list(row) for row in ONES), ONES[:2] + ([1] * 6,), ((1,) * 5,) * 3,
            ((1,) * 7,) * 3, ONES[:2] + ((1,) * 5,), ((1,) * 3,) * 6, ((True,) * 6,) * 3, ONES[:2] + ((1, 1, 1, 1, 1, True),),
            ONES[:2] + ((1, 1, 1, 1, 1, False),), ONES[:2] + ((1, 1, 1, 1, 1, -1),), ONES[:2] + ((1, 1, 1, 1, 1, None),),
            ONES[:2] + ((1, 1, 1, 1, 1, "1"),), ((-1,) * 6,) * 3, ((),) * 3, ((1, 1, 1, 1, 1, [1]),) * 3, (ONES,), "abc",
            ("aaaaaa", "aaaaaa", "aaaaaa"), {0: (1,) * 6, 1: (1,) * 6, 2: (1,) * 6}, (None, None, None), (ONES, ONES, ONES),
        ]:
            self.same(self.fresh(judge_weights, RING, SIX, value), ("form",))
        self.same(judge_weights(SIX, RING, ONES), ("form",))
        one = Web([("a", "x")], [])
        self.same([judge_weights(one, one, ((1,),)), judge_weights(one, one, ((0,),)), judge_weights(one, one, ((10 ** 39,),))],
                  [None, ("rows", "a"), None])
        self.same([judge_weights(one, one, ()), judge_weights(one, one, ((),)), judge_weights(one, one, ((True,),))],
                  [("form",)] * 3)

    def test_rows_and_columns(self):
        self.same(judge_weights(RING, STAR, ((2, 1, 1, 1, 1),) * 3), ("columns", "b"))
        self.same(judge_weights(RING, RING, ((0, 0, 0), (1, 0, 0), (2, 0, 0))), ("rows", "a"))
        self.same(judge_weights(RING, RING, ((0, 0, 0),) * 3), ("rows", "a"))
        self.same(judge_weights(RING, RING, ((1, 0, 0), (0, 2, 0), (0, 0, 0))), ("rows", "b"))
        self.same(judge_weights(RING, RING, ((1, 0, 0), (0, 1, 0), (0, 0, 2))), ("rows", "c"))
        self.same(judge_weights(RING, RING, ((1, 0, 0), (0, 1, 0), (0, 1, 0))), ("columns", "b"))
        self.same(judge_weights(RING, RING, ((1, 1, 0), (0, 1, 1), (1, 0, 1))), None)
        self.same(judge_weights(RING, RING, ((2, 1, 0), (0, 2, 1), (1, 0, 2))), None)
        self.same(judge_weights(RING, RING, ((1, 1, 0), (1, 1, 0), (0, 0, 2))), None)
        self.same(judge_weights(path(3), path(3), ((1, 1, 0), (1, 1, 0), (0, 0, 2))), ("ties", "a", "c", "k"))

    def test_the_sequence_of_the_faults(self):
        one = Web([("b", "x"), ("a", "x"), ("c", "y")], [("a", "b", "k", 1), ("b", "c", "j", 2)])
        for value, fault in [
            (((0, 0, 1), (0, 1, 0), (1, 0, 1)), ("rows", "c")), (((1, 0, 0), (0, 0, 1), (1, 0, 0)), ("columns", "a")),
            (((1, 0, 0), (0, 0, 1), (0, 1, 0)), ("colour", "a", "c")), (((0, 1, 0), (1, 0, 0), (0, 0, 1)),
                                                                       ("ties", "b", "c", "j")),
        ]:
            self.same(plain_fault(one, one, value), fault)
            self.same(judge_weights(one, one, value), fault)

    def test_ties_at_entries_of_0_and_at_unlike_colours(self):
        one = Web([("a", "x"), ("b", "y")], [("a", "b", "z", 1)])
        other = Web([("a", "x"), ("b", "y")], [])
        self.same(judge_weights(one, other, ((1, 0), (0, 1))), ("ties", "a", "b", "z"))
        self.same(judge_weights(other, one, ((1, 0), (0, 1))), ("ties", "a", "b", "z"))
        web = Web([("a", "x"), ("b", "x")], [("a", "b", "p2", 1), ("a", "b", "p10", 1)])
        self.same(judge_weights(web, Web([("a", "x"), ("b", "x")], []), ((1, 1), (1, 1))), ("ties", "a", "a", "p10"))
        self.same(judge_weights(path(2, kind="j"), path(2), ((1, 1), (1, 1))), ("ties", "a", "a", "j"))
        self.same(judge_weights(path(2, kind="k"), path(2, kind="j"), ((1, 0), (0, 1))), ("ties", "a", "b", "j"))


class WeightTableTest(Checks, unittest.TestCase):
    """Point 5.2."""

    def test_as_the_point_tells_it(self):
        for one, other in kin_pairs(64, 120):
            first, last = plain_rounds([one, other], 16)[16]
            most = math.lcm(*[last.count(number) for number in last])
            wanted = tuple(tuple(most // last.count(q) if p == q else 0 for q in last) for p in first)
            told = self.fresh(weight_table, one, other)
            self.same(told, wanted)
            self.same(plain_fault(one, other, told), None)

    def test_all_others_are_0_where_it_is(self):
        for one, other, table in some_tables(65, 40):
            least = weight_table(one, other)
            self.assertTrue(all(entry == 0 or also > 0 for row, rows in zip(table, least) for entry, also in zip(row, rows)))

    def test_others(self):
        self.same(weight_table(RING, STAR), None)
        for one, other in webs_that_are_not_kin(66, 40):
            self.same([weight_table(one, other), weight_table(other, one)], [None, None])
        self.same(weight_table(path(3), copies(path(3), 2)[0]), ((1, 0, 1, 1, 0, 1), (0, 2, 0, 0, 2, 0), (1, 0, 1, 1, 0, 1)))
        self.same(weight_table(copies(path(3), 2)[0], path(3)), ((1, 0, 1), (0, 2, 0), (1, 0, 1)) * 2)

    def test_one_web_at_both_sides(self):
        for web in random_webs(67, 40):
            self.same(judge_weights(web, web, weight_table(web, web)), None)
        self.same(weight_table(path(3), path(3)), ((1, 0, 1), (0, 2, 0), (1, 0, 1)))

    def test_great_webs(self):
        great, _ = copies(path(5), 48)
        for one, other in [(great, path(5)), (path(5), great), (great, great)]:
            table = weight_table(one, other)
            self.same(judge_weights(one, other, table), None)
            self.same(lessened(table), table)
            self.same(len(set(colours_of(table)[0])), 3)
        square = weight_table(great, great)
        twice = weights_behind(square, square)
        self.same(judge_weights(great, great, twice), None)
        self.same(turned_over(lessened(added_weights(square, twice))), lessened(twice))
        names = [f"p{at}" for at in range(240)]
        dense = Web([(name, "x") for name in names],
                    [(p, q, "k", 1 + (i + j) % 2) for i, p in enumerate(names) for j, q in enumerate(names[:i])])
        self.same(judge_weights(dense, dense, weight_table(dense, dense)), None)
        diagonal = tuple(tuple(1 if i == j else 0 for j in range(240)) for i in range(240))
        self.same(judge_weights(great, great, diagonal), None)
        self.same(colours_of(diagonal), (list(range(240)), list(range(240))))
        self.same(judge_weights(great, great, diagonal[:1] + (diagonal[2], diagonal[1]) + diagonal[3:]),
                  ("ties", "p0", "p1", "k"))


class TablesTest(Checks, unittest.TestCase):
    """Points 5.3 and 5.4."""

    def test_weights_behind(self):
        for one, other, table in some_tables(68, 40):
            also = weight_table(other, one)
            told = self.fresh(weights_behind, table, also)
            wanted = tuple(tuple(sum(table[i][k] * also[k][j] for k in range(len(other))) for j in range(len(one)))
                           for i in range(len(one)))
            self.same(told, wanted)
            self.same(judge_weights(one, one, told), None)
        self.same(weights_behind(ONES, ((1,), (0,), (2,), (0,), (0,), (5,))), ((8,), (8,), (8,)))
        self.same(weights_behind(((1, 2),), ((1, 0, 3), (0, 1, 4))), ((1, 2, 11),))

    def test_weights_behind_of_a_wrong_length(self):
        self.refuses(BadNumber, 3, weights_behind, ONES, ONES)
        for length in (1, 2, 3, 4, 5, 7):
            self.refuses(BadNumber, length, weights_behind, ONES, ((1,),) * length)
        self.refuses(BadNumber, 6, weights_behind, turned_over(ONES), turned_over(ONES))

    def test_turned_over(self):
        self.same(self.fresh(turned_over, ((1, 2, 3), (4, 5, 6))), ((1, 4), (2, 5), (3, 6)))
        self.same(turned_over(((7,),)), ((7,),))
        for one, other, table in some_tables(69, 40):
            told = self.fresh(turned_over, table)
            self.same([judge_weights(other, one, told), turned_over(told)], [None, table])

    def test_added_weights(self):
        self.same(self.fresh(added_weights, ((1, 2), (3, 4)), ((10, 20), (30, 40))), ((11, 22), (33, 44)))
        for one, other, table in some_tables(70, 40):
            told = self.fresh(added_weights, table, weight_table(one, other))
            self.same(judge_weights(one, other, told), None)
            self.same(told, tuple(tuple(entry + also for entry, also in zip(*rows))
                                  for rows in zip(table, weight_table(one, other))))

    def test_added_weights_of_unlike_sizes(self):
        for last in (ONES[:2], ONES + ONES, ((1,) * 5,) * 3, ((1,) * 7,) * 3, ((1,) * 3,) * 6, ((1,),)):
            self.refuses(BadNumber, len(last), added_weights, ONES, last)
            self.refuses(BadNumber, 3, added_weights, last, ONES)

    def test_lessened(self):
        self.same(self.fresh(lessened, ((2, 4), (6, 0))), ((1, 2), (3, 0)))
        self.same([lessened(((6,),)), lessened(ONES), lessened(((0, 10 ** 39), (10 ** 39, 0)))],
                  [((1,),), ONES, ((0, 1), (1, 0))])
        self.same(lessened(((0, 4, 6), (10, 0, 0), (0, 6, 4))), ((0, 2, 3), (5, 0, 0), (0, 3, 2)))
        for one, other, table in some_tables(71, 40):
            told = self.fresh(lessened, tuple(tuple(entry * 12 for entry in row) for row in table))
            self.same(judge_weights(one, other, told), None)
            self.same(math.gcd(*[entry for row in told for entry in row]), 1)
            self.same([told[0][0] * table[i][j] for i in range(len(one)) for j in range(len(other))],
                      [table[0][0] * told[i][j] for i in range(len(one)) for j in range(len(other))])

    def test_colours_of(self):
        self.same(self.fresh(colours_of, ((0, 1, 0), (0, 0, 1), (1, 0, 0))), ([0, 1, 2], [2, 0, 1]))
        self.same(self.fresh(colours_of, ONES), ([0, 0, 0], [0] * 6))
        # A chain goes on to p over places of either web.
        chain = ((1, 1, 0, 0), (0, 0, 1, 1), (0, 1, 1, 0), (1, 0, 0, 1))
        self.same(colours_of(chain), ([0] * 4, [0] * 4))
        self.same(colours_of(((1, 0, 1, 0), (0, 2, 0, 0), (1, 0, 1, 0), (0, 0, 0, 2))), ([0, 1, 0, 2], [0, 1, 0, 2]))

    def test_colours_are_balanced(self):
        for one, other, table in some_tables(72, 60):
            first, last = self.fresh(colours_of, table)
            self.same([judge_balanced(one, first), judge_balanced(other, last)], [None, None])
            self.same(table_of_sums(one, first), table_of_sums(other, last))
            seen = []
            for number in first:
                if number not in seen:
                    seen.append(number)
            self.same(seen, list(range(len(seen))))
            pairs = [(first[i], last[j]) for i in range(len(one)) for j in range(len(other)) if table[i][j] > 0]
            self.assertTrue(all(number == also for number, also in pairs))

    def test_colours_of_the_weight_table(self):
        for one, other in kin_pairs(73, 60):
            first, last = colours_of(weight_table(one, other))
            wanted = settled([one, other])
            pairs = set(zip(first + last, wanted[0] + wanted[1]))
            self.assertEqual(len(pairs), len(set(first)))
            self.assertEqual(len(pairs), len(set(wanted[0])))


class OverTest(Checks, unittest.TestCase):
    """Point 5.5."""

    def test_tables_of_webs_over_both(self):
        for one, other in kin_pairs(74, 80):
            if over_number(one, other) <= 240:
                paper = web_over(one, other)
                told = self.fresh(weights_of_over, one, other, paper)
                many = pairs_over(paper)
                self.same(told, tuple(tuple(many.get((p, q), 0) for q in other.places()) for p in one.places()))
                self.same(judge_weights(one, other, told), None)
                self.same([sum(row) * len(one) for row in told], [len(paper[0])] * len(one))
                self.same([sum(row) * len(other) for row in turned_over(told)], [len(paper[0])] * len(other))

    def test_orders(self):
        one = Web([("b", "x"), ("a", "x"), ("c", "x")], RING.ties())
        same = {name: name for name in "abc"}
        turn = {"a": "b", "b": "c", "c": "a"}
        self.same(weights_of_over(one, RING, (RING, same, same)), ((0, 1, 0), (1, 0, 0), (0, 0, 1)))
        self.same(weights_of_over(one, RING, (RING, same, turn)), ((0, 0, 1), (0, 1, 0), (1, 0, 0)))
        self.same(weights_of_over(RING, one, (RING, same, turn)), ((1, 0, 0), (0, 0, 1), (0, 1, 0)))

    def test_strange_places(self):
        same = {name: name for name in SIX.places()}
        over = (SIX, FOLDING, same)
        for value in ["zz", "p0", "", "A"]:
            self.refuses(UnknownName, "p1", weights_of_over, RING, SIX, (SIX, {**FOLDING, "p1": value, "p4": value}, same))
        for value in ["zz", "a", ""]:
            self.refuses(UnknownName, "p4", weights_of_over, RING, SIX, (SIX, FOLDING, {**same, "p5": value, "p4": value}))
        self.refuses(UnknownName, "p5", weights_of_over, RING, SIX,
                     (SIX, {**FOLDING, "p5": "p5"}, {**same, "p0": "a"}))
        self.refuses(UnknownName, "p0", weights_of_over, RING, SIX, (SIX, {}, {}))
        self.refuses(UnknownName, "p0", weights_of_over, RING, SIX, (SIX, FOLDING, {}))
        self.refuses(UnknownName, "p0", weights_of_over, SIX, RING, over)
        self.same(weights_of_over(RING, SIX, over), weights_of_over(RING, SIX, (SIX, {**FOLDING, "zz": "zz"}, same)))


if __name__ == "__main__":
    unittest.main()
