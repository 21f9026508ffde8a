"""Point 9.6."""

import math
import random
import unittest

from namelessly.changes import mapped_colours, merged_kinds, moving_product, product, struck, taken_out, times
from namelessly.errors import BadNumber
from namelessly.ledtables import beside_table, copied_table, product_table, taken_out_table
from namelessly.overs import over_number, web_over
from namelessly.rounds import class_count, settled
from namelessly.webs import Web, beside, copies
from namelessly.weights import added_weights, judge_weights, weight_table, weights_of_over
from tests.support import Checks, kin_pairs, odd_values, path, ring

PAIRS = {(x, y): x + y for x in "xyz" for y in "xyz"}


def some_tables(seed, many, most=8):
    """Tuples (one, other, table) of kin webs and weight tables for them, of several forms."""
    source = random.Random(seed)
    found = [(ring(3), ring(3), ((0, 1, 2), (2, 0, 1), (1, 2, 0)))]
    for one, other in kin_pairs(seed, many, most=most):
        table = weight_table(one, other)
        if over_number(one, other) <= 240 and source.random() < 0.7:
            table = weights_of_over(one, other, web_over(one, other))
        for _ in range(source.randint(0, 2)):
            table = added_weights(table, weight_table(one, other))
        found.append((one, other, table))
    return found


class CopiedTest(Checks, unittest.TestCase):

    def test_copied_table(self):
        source = random.Random(260)
        for one, other, table in some_tables(261, 40):
            many = source.randint(1, 4)
            told = self.fresh(copied_table, table, many)
            rows = [[table[i][j] for _ in range(many) for j in range(len(other))] for _ in range(many) for i in range(len(one))]
            self.same(told, tuple(tuple(row) for row in rows))
            self.same(judge_weights(copies(one, many)[0], copies(other, many)[0], told), None)
        self.same(copied_table(((1, 0), (0, 1)), 1), ((1, 0), (0, 1)))
        self.same(len(copied_table(((1,),), 300)), 300)

    def test_numbers(self):
        for value in odd_values() + [0, -1, "2"]:
            if type(value) is not int or value < 1:
                self.refuses(BadNumber, value, copied_table, ((1,),), value)


class ProductTest(Checks, unittest.TestCase):

    def test_product_table(self):
        source = random.Random(262)
        found = some_tables(263, 40, most=6)
        for one, other, first in found:
            one2, other2, second = source.choice(found)
            told = self.fresh(product_table, first, second)
            rows = [[first[p][q] * second[p2][q2] for q in range(len(other)) for q2 in range(len(other2))]
                    for p in range(len(one)) for p2 in range(len(one2))]
            self.same(told, tuple(tuple(row) for row in rows))
            for call in (product, moving_product):
                self.same(judge_weights(call(one, one2, PAIRS), call(other, other2, PAIRS), told), None)


class BesideTest(Checks, unittest.TestCase):

    def test_beside_table(self):
        source = random.Random(264)
        found = some_tables(265, 60)
        seen = set()
        for one, other, first in found:
            for one2, other2, second in source.sample(found, 8):
                told = self.fresh(beside_table, first, second)
                fits = len(one) * len(other2) == len(other) * len(one2)
                seen.add(fits)
                self.same(told is None, not fits)
                if fits:
                    self.same(judge_weights(beside([one, one2])[0], beside([other, other2])[0], told), None)
                    self.smallest(first, second, told)
        self.assertEqual(seen, {True, False})

    def smallest(self, first, second, told):
        """The smallest factors, by a going through of all."""
        sums = [[sum(table[0]), sum(row[0] for row in table)] for table in (first, second)]
        fit = [(i, j) for i in range(1, sums[1][0] + 1) for j in range(1, sums[0][0] + 1)
               if i * sums[0][0] == j * sums[1][0] and i * sums[0][1] == j * sums[1][1]]
        i, j = min(fit)
        rows = [[i * entry for entry in row] + [0] * len(second[0]) for row in first]
        rows += [[0] * len(first[0]) + [j * entry for entry in row] for row in second]
        self.same(told, tuple(tuple(row) for row in rows))

    def test_edges(self):
        self.same(beside_table(((1,),), ((1,),)), ((1, 0), (0, 1)))
        self.same(beside_table(((4,),), ((6,),)), ((12, 0), (0, 12)))
        self.same(beside_table(((1, 1),), ((1,),)), None)
        self.same(beside_table(((1,), (1,)), ((1, 1),)), None)
        self.same(beside_table(((2, 2),), ((3, 3),)), ((6, 6, 0, 0), (0, 0, 6, 6)))
        self.same(beside_table(((1, 1),), ((2, 0, 2, 0), (0, 2, 0, 2))), ((2, 2) + (0,) * 4, (0, 0, 2, 0, 2, 0), (0, 0, 0, 2, 0, 2)))


class TakenOutTest(Checks, unittest.TestCase):

    def test_taken_out_table(self):
        for one, other, table in some_tables(266, 60):
            many = class_count([one, other], 16)
            first, last = settled([one, other])
            for number in range(many):
                if many == 1:
                    self.refuses(BadNumber, number, taken_out_table, one, other, table, number)
                    continue
                told = self.fresh(taken_out_table, one, other, table, number)
                rows = [[table[i][j] for j in range(len(other)) if last[j] != number]
                        for i in range(len(one)) if first[i] != number]
                self.same(told, tuple(tuple(row) for row in rows))
                left, also = taken_out([one, other], number)
                self.same(judge_weights(left, also, told), None)

    def test_numbers(self):
        one, table = path(3), ((1, 0, 1), (0, 2, 0), (1, 0, 1))
        self.same(taken_out_table(one, one, table, 0), ((2,),))
        self.same(taken_out_table(one, one, table, 1), ((1, 1), (1, 1)))
        for value in odd_values() + [2, -1]:
            if type(value) is not int or value not in (0, 1):
                self.refuses(BadNumber, value, taken_out_table, one, one, table, value)


class StayingTest(Checks, unittest.TestCase):

    def test_tables_that_stay(self):
        source = random.Random(267)
        for one, other, table in some_tables(268, 60):
            new = {colour: source.choice("xyz") for colour in "xyz"}
            for call, args in ((times, ("k", source.randint(1, 20))), (struck, ("k",)), (struck, ("j",)), (merged_kinds, ("k", "l")),
                               (merged_kinds, ("l", "j")), (mapped_colours, (new,))):
                self.same(judge_weights(call(one, *args), call(other, *args), table), None)

    def test_great_webs(self):
        great = copies(path(4), 60)[0]
        table = weight_table(great, path(4))
        self.same(judge_weights(great, great, copied_table(weight_table(path(4), path(4)), 60)), None)
        self.same(len(taken_out_table(great, path(4), table, 0)), 120)
        two = Web([("a", "x"), ("b", "x")], [])
        self.same(math.gcd(*product_table(table, weight_table(two, two))[0]), 1)
        self.same(len(beside_table(table, table)), 480)


if __name__ == "__main__":
    unittest.main()
