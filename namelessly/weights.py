"""Weight tables: a number for each two places of two webs, by which the webs are seen to be kin."""

from math import gcd, lcm

from namelessly.errors import BadNumber, UnknownName
from namelessly.helpers import is_number
from namelessly.kin import kin
from namelessly.overs import pairs_over
from namelessly.rounds import settled
from namelessly.webs import reached_from


def has_form(one, other, value):
    """Whether a value is a tuple of tuples of integers from 0, a row for each place of one."""
    if not isinstance(value, tuple) or len(value) != len(one):
        return False
    for row in value:
        if not isinstance(row, tuple) or len(row) != len(other):
            return False
        if not all([is_number(entry, 0) for entry in row]):
            return False
    return True


def judge_sums(one, other, table):
    """The first fault in the sums of rows and columns, None if there is none."""
    totals = [sum(row) for row in table]
    for name, total in zip(one.places(), totals):
        if total == 0 or total != totals[0]:
            return ("rows", name)
    totals = [sum(column) for column in turned_over(table)]
    for name, total in zip(other.places(), totals):
        if total != totals[0]:
            return ("columns", name)
    return None


def judge_colours(one, other, table):
    """The first entry above 0 at places of unlike colours, as a fault; None if there is none."""
    for p, row in zip(one.places(), table):
        for q, entry in zip(other.places(), row):
            if entry > 0 and one.colour(p) != other.colour(q):
                return ("colour", p, q)
    return None


def sums_along(web, kinds, table):
    """For each kind, place by place, the sum of the rows at the ends of its ties, as often as each is wide.

    Whole rows are added at once: with many places this is what takes the time.
    """
    rows = dict(zip(web.places(), table))
    sums = {kind: {name: [0] * len(table[0]) for name in web.places()} for kind in kinds}
    for one, other, kind, width in web.ties():
        found = sums[kind]
        for place, end in ((one, other), (other, one)):
            found[place] = [total + width * entry for total, entry in zip(found[place], rows[end])]
    return {kind: list(sums[kind].values()) for kind in kinds}


def judge_ties(one, other, table):
    """The first two places and kind at which the sums along the ties are unlike; None if there are none."""
    kinds = sorted(set(one.kinds() + other.kinds()))
    first = sums_along(one, kinds, table)
    last = sums_along(other, kinds, turned_over(table))
    for i, p in enumerate(one.places()):
        for j, q in enumerate(other.places()):
            for kind in kinds:
                if first[kind][i][j] != last[kind][j][i]:
                    return ("ties", p, q, kind)
    return None


def judge_weights(one, other, value):
    """None if a value is a weight table for two webs, else its first fault."""
    if not has_form(one, other, value):
        return ("form",)
    for fault in (judge_sums(one, other, value), judge_colours(one, other, value)):
        if fault is not None:
            return fault
    return judge_ties(one, other, value)


def weight_table(one, other):
    """The weight table by the settled classes of two webs, None if they are not kin."""
    if not kin(one, other, None):
        return None
    first, last = settled([one, other])
    most = 1
    for number in last:
        most = lcm(most, last.count(number))
    shares = {number: most // last.count(number) for number in last}
    return tuple([tuple([shares[also] if also == number else 0 for also in last]) for number in first])


def weights_behind(first, last):
    """The table for the outer ones of three webs, from those for the first two and the last two."""
    if any([len(row) != len(last) for row in first]):
        raise BadNumber(len(last))
    rows = []
    for row in first:
        sums = [0] * len(last[0])
        for entry, also in zip(row, last):
            if entry > 0:
                sums = [total + entry * behind for total, behind in zip(sums, also)]
        rows.append(tuple(sums))
    return tuple(rows)


def turned_over(table):
    """The table for the two webs the other way round."""
    return tuple(zip(*table))


def added_weights(first, last):
    """Entry by entry the sum of two tables for the same webs."""
    if [len(row) for row in first] != [len(row) for row in last]:
        raise BadNumber(len(last))
    return tuple([tuple([entry + also for entry, also in zip(row, other)]) for row, other in zip(first, last)])


def lessened(table):
    """The table with all entries divided by their greatest common divisor."""
    common = 0
    for row in table:
        for entry in row:
            common = gcd(common, entry)
    return tuple([tuple([entry // common for entry in row]) for row in table])


def colours_of(table):
    """The class numbers of the places of both webs that chains of entries above 0 give."""
    # The places of other are counted on behind those of one.
    many = len(table)
    near = [[many + at for at, entry in enumerate(row) if entry > 0] for row in table]
    near.extend([[at for at, entry in enumerate(column) if entry > 0] for column in turned_over(table)])
    numbers = [None] * len(near)
    classes = 0
    for start in range(len(near)):
        if numbers[start] is None:
            for at in reached_from(start, near):
                numbers[at] = classes
            classes += 1
    return (numbers[:many], numbers[many:])


def weights_of_over(one, other, over):
    """The table of the numbers of places over each two places, for a web over both webs."""
    web, first, last = over
    for name in web.places():
        if first.get(name) not in one:
            raise UnknownName(name)
    for name in web.places():
        if last.get(name) not in other:
            raise UnknownName(name)
    many = pairs_over(over)
    return tuple([tuple([many.get((p, q), 0) for q in other.places()]) for p in one.places()])
