"""Bases: lists of trees by whose lays all that can be told of two webs is told, and trees that separate."""

from namelessly.errors import TooMany
from namelessly.kin import apart_at, separating_round, two_spots
from namelessly.rounds import class_rows, kind_ends, summed
from namelessly.trees import heights, lays, lays_into, plain_lines, wrong_tree_line
from namelessly.webs import beside


class Span:
    """The rows of numbers that are sums of multiples, by fractions, of those that were taken."""

    def __init__(self):
        self._reduced = []

    def takes(self, row):
        """Whether a row is no such sum; if so, it is taken.

        Each division leaves nothing over: all numbers that come up are determinants of numbers of the rows.
        """
        rest = list(row)
        divisor = 1
        for spot, known in self._reduced:
            pivot = known[spot]
            lead = rest[spot]
            rest = [(pivot * number - lead * also) // divisor for number, also in zip(rest, known)]
            divisor = pivot
        spots = [at for at, number in enumerate(rest) if number != 0]
        if not spots:
            return False
        self._reduced.append((spots[0], rest))
        return True


class Product:
    """A product of factors (kind, position), the row of what its tree lays at all places, and its knots."""

    def __init__(self, factors, row, many):
        self.factors = factors
        self.row = row
        self.many = many

    def longer(self, factor):
        """This product times one more factor, itself a product of this one factor, below no root."""
        row = [often * also for often, also in zip(self.row, factor.row)]
        return Product(self.factors + factor.factors, row, self.many + factor.many)


class Growth:
    """Makes the bases of two webs, each from the one before it.

    A basis is a list of tuples (number of a line, product). The lines of all bases stand in one list.
    """

    def __init__(self, one, other, most_knots):
        self._both = beside([one, other])[0]
        self._ends = kind_ends(self._both)
        self._classes = class_rows([self._both], None)
        self._most_knots = most_knots
        self._lines = []

    def colours(self):
        """The colours of both webs, ascending."""
        return self._both.colours()

    def tree(self, number):
        """The tree of a line."""
        return plain_lines(self._lines[:number + 1])

    def _first_spots(self, row, k):
        """Where the first place of each class of round k stands, of the places at which a row is above 0."""
        first = {}
        for at, number in enumerate(self._classes[min(k, len(self._classes) - 1)]):
            if row[at] > 0:
                first.setdefault(number, at)
        return list(first.values())

    def _factors(self, before):
        """The products of a single factor, ascending, each without the knot of a root."""
        return [Product(((kind, position),), summed(self._ends[kind], product.row), product.many)
                for kind in self._both.kinds() for position, (_, product) in enumerate(before)]

    def _taken(self, root, factors, k):
        """The products of one colour that are taken for round k, in order; none behind one with too many knots."""
        spots = self._first_spots(root.row, k)
        span = Span()
        taken = []
        level = [root]
        while level:
            fresh = []
            for product in level:
                if span.takes([product.row[at] for at in spots]):
                    fresh.append(product)
                    taken.append(product)
                    if len(taken) == len(spots) or product.many > self._most_knots:
                        return taken
            # Only what is longer by a last factor than one that was taken can be taken.
            level = [product.longer(factor) for product in fresh for factor in factors
                     if product.factors[-1:] <= factor.factors]
        return taken

    def grown(self, before, colour, k):
        """The part of basis k that has this colour, from the basis before; none behind one with too many knots."""
        indicator = [1 if self._both.colour(name) == colour else 0 for name in self._both.places()]
        part = []
        for product in self._taken(Product((), indicator, 1), self._factors(before), k):
            factors = product.factors
            all_times = {spot: factors.count(spot) for spot in factors}
            part.append((len(self._lines), product))
            self._lines.append((colour, tuple([(kind, before[position][0], all_times[(kind, position)])
                                               for kind, position in all_times])))
        return part

    def basis(self, k):
        """Basis k; TooMany if a tree of this one or of an earlier one has too many knots. No basis is ahead of 0."""
        found = []
        for at in range(k + 1):
            before = found
            found = []
            for colour in self.colours():
                found.extend(self.grown(before, colour, at))
            if max([product.many for _, product in found]) > self._most_knots:
                raise TooMany()
        return found


def base(one, other, k, *, most_knots=60):
    """The list of the trees of basis k of two webs."""
    growth = Growth(one, other, most_knots)
    return [growth.tree(line) for line, _ in growth.basis(k)]


def first_separating(one, other, h, weights, most_knots):
    """The first tree of basis h whose lays, times these weights, place by place, do not come to 0."""
    growth = Growth(one, other, most_knots)
    before = growth.basis(h - 1)
    for colour in growth.colours():
        for line, product in growth.grown(before, colour, h):
            if product.many > most_knots:
                raise TooMany()
            if sum([weight * often for weight, often in zip(weights, product.row)]) != 0:
                return growth.tree(line)
    return None


def separating_tree(one, other, *, most_knots=60):
    """A tree of the height of the separating round that separates two webs, None if they are kin."""
    h = separating_round(one, other)
    if h is None:
        return None
    weights = [len(other)] * len(one) + [-len(one)] * len(other)
    return first_separating(one, other, h, weights, most_knots)


def tree_between(one, p, other, q, *, most_knots=60):
    """A tree of the height of the round at which two places part that separates them, None if they are alike."""
    h = apart_at(one, p, other, q)
    if h is None:
        return None
    weights = [0] * (len(one) + len(other))
    first, last = two_spots(one, p, other, q)
    weights[first] = 1
    weights[last] = -1
    return first_separating(one, other, h, weights, most_knots)


def judge_height(value, h):
    """The first fault of a value that is to be a tree of height at most h, None if it is one."""
    if wrong_tree_line(value) is not None:
        return ("form",)
    high = heights(value)[-1]
    if high > h:
        return ("height", high)
    return None


def judge_tree(one, other, value, h):
    """None if a value is a tree of height at most h that separates two webs, else its first fault."""
    fault = judge_height(value, h)
    if fault is not None:
        return fault
    into = lays_into(one, value)
    also = lays_into(other, value)
    if into * len(other) == also * len(one):
        return ("equal", into, also)
    return None


def judge_tree_between(one, p, other, q, value, h):
    """None if a value is a tree of height at most h that separates two places, else its first fault."""
    two_spots(one, p, other, q)
    fault = judge_height(value, h)
    if fault is not None:
        return fault
    often = lays(one, p, value)
    if often == lays(other, q, value):
        return ("equal", often)
    return None
