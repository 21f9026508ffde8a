"""Weight tables that are led along the changes of their webs."""

from math import gcd

from namelessly.changes import taken_out
from namelessly.errors import BadNumber
from namelessly.helpers import is_number


def copied_table(table, many):
    """The weight table of many copies of both webs."""
    if not is_number(many, 1):
        raise BadNumber(many)
    return tuple([row * many for row in table]) * many


def product_table(first, second):
    """The weight table of the products of the webs of two tables."""
    rows = []
    for row in first:
        for across in second:
            rows.append(tuple([entry * also for entry in row for also in across]))
    return tuple(rows)


def column_sum(table):
    """The sum of the first column."""
    return sum([row[0] for row in table])


def beside_table(first, second):
    """The weight table of the webs side by side, None if the numbers of their places do not fit."""
    if sum(first[0]) * column_sum(second) != sum(second[0]) * column_sum(first):
        return None
    common = gcd(sum(first[0]), sum(second[0]))
    i = sum(second[0]) // common
    j = sum(first[0]) // common
    rows = [tuple([entry * i for entry in row]) + (0,) * len(second[0]) for row in first]
    rows.extend([(0,) * len(first[0]) + tuple([entry * j for entry in row]) for row in second])
    return tuple(rows)


def taken_out_table(one, other, table, number):
    """The table without the rows and columns of the places that taken_out takes out."""
    left, also = taken_out([one, other], number)
    rows = [row for name, row in zip(one.places(), table) if name in left]
    return tuple([tuple([entry for name, entry in zip(other.places(), row) if name in also]) for row in rows])
