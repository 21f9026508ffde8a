"""What can be said of classes of places, and sayings that separate."""

from namelessly.errors import BadNumber, UnknownName
from namelessly.helpers import is_index
from namelessly.kin import apart_at, class_shares, separating_round, two_spots
from namelessly.rounds import class_rows, kind_ends
from namelessly.sayings import Lines, depths, holds_at, said_at, wrong_saying_line
from namelessly.webs import beside


def first_of_each(classes):
    """The dict from each class to the first place in the row that has it."""
    first = {}
    for at, number in enumerate(classes):
        first.setdefault(number, at)
    return first


class Teller:
    """Makes the lines that tell the classes of the places of a web, round by round."""

    def __init__(self, web):
        self._web = web
        self._ends = kind_ends(web)
        self._lines = Lines()

    def saying(self, number):
        """The saying of a line."""
        return self._lines.saying(number)

    def first_round(self, classes):
        """The dict from each class of round 0 to the number of the line that tells it."""
        names = self._web.places()
        first = first_of_each(classes)
        return {number: self._lines.line_number(("is", self._web.colour(names[first[number]]))) for number in first}

    def next_round(self, before, classes, told):
        """The same for the round behind one with the classes before, whose lines are told."""
        first = first_of_each(classes)
        found = {}
        for number, at in first.items():
            siblings = [also for also in first if also != number and before[first[also]] == before[at]]
            needed = {told[before[at]]: True}
            for also in siblings:
                needed[self._telling(self._sums(before, at), self._sums(before, first[also]), told)] = True
            if siblings:
                found[number] = self._lines.line_number(("all", tuple(sorted(needed))))
            else:
                found[number] = told[before[at]]
        return found

    def _sums(self, classes, at):
        """The dict from (kind, class) to the sum of a place's widths."""
        sums = {}
        for kind in self._ends:
            for place, width in self._ends[kind][at]:
                spot = (kind, classes[place])
                sums[spot] = sums.get(spot, 0) + width
        return sums

    def _telling(self, sums, others, told):
        """The number of a line that holds where the one sums are, and not where the other ones are."""
        for spot in list(sums) + list(others):
            mine = sums.get(spot, 0)
            also = others.get(spot, 0)
            if mine != also:
                line = self._lines.line_number(("some", max(mine, also), spot[0], told[spot[1]]))
                return line if mine > also else self._lines.line_number(("not", line))
        return None


def class_saying(webs, at, k):
    """A saying of depth at most k that holds just at the class of round k of the place that stands there in the row."""
    both = beside(webs)[0]
    rows = class_rows([both], k)
    teller = Teller(both)
    told = teller.first_round(rows[0])
    for before, classes in zip(rows, rows[1:]):
        told = teller.next_round(before, classes, told)
    return teller.saying(told[rows[-1][at]])


def saying_of(webs, place, k):
    """A saying of depth at most k that holds, in a list of webs, just at the places of one class of round k."""
    number, name = place
    if not is_index(number, len(webs)):
        raise BadNumber(number)
    if name not in webs[number]:
        raise UnknownName(name)
    ahead = sum([len(web) for web in webs[:number]])
    return class_saying(webs, ahead + webs[number].places().index(name), k)


def separating_saying(one, other):
    """A saying that separates two webs, as deep as their separating round at most; None if they are kin."""
    h = separating_round(one, other)
    if h is None:
        return None
    classes = class_rows([one, other], h)[-1]
    shares = class_shares(one, classes)
    unlike = [at for at, number in enumerate(classes)
              if shares[number][0] * len(other) != shares[number][1] * len(one)]
    return class_saying([one, other], unlike[0], h)


def saying_between(one, p, other, q):
    """A saying that holds at p and not at q, as deep as the round that parts them at most; None if they are alike."""
    h = apart_at(one, p, other, q)
    if h is None:
        return None
    return class_saying([one, other], two_spots(one, p, other, q)[0], h)


def judge_depth(value, h):
    """The first fault of a value that is to be a saying of depth at most h, None if it is one."""
    if wrong_saying_line(value) is not None:
        return ("form",)
    deep = depths(value)[-1]
    if deep > h:
        return ("deep", deep)
    return None


def judge_saying(one, other, value, h):
    """None if a value is a saying of depth at most h that separates two webs, else its first fault."""
    fault = judge_depth(value, h)
    if fault is not None:
        return fault
    many = len(holds_at(one, value))
    also = len(holds_at(other, value))
    if many * len(other) == also * len(one):
        return ("same", many, also)
    return None


def judge_saying_between(one, p, other, q, value, h):
    """None if a value is a saying of depth at most h that holds at p and not at q, else its first fault."""
    two_spots(one, p, other, q)
    fault = judge_depth(value, h)
    if fault is not None:
        return fault
    first = said_at(one, p, value)
    last = said_at(other, q, value)
    if not first or last:
        return ("same", first, last)
    return None
