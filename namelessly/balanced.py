"""Balanced colourings: places with one number look and hear alike."""

from namelessly.helpers import is_number
from namelessly.rounds import all_ends, refined


def is_colouring(web, value):
    """Whether a value is a list of numbers from 0, place by place, without gaps."""
    if not isinstance(value, (list, tuple)) or len(value) != len(web):
        return False
    if not all([is_number(number, 0) for number in value]):
        return False
    return max(value) + 1 == len(set(value))


def sums_of(web, colouring):
    """The dict from (place, kind) to the dict from numbers to the place's sums of this kind to them."""
    number_of = dict(zip(web.places(), colouring))
    kinds = web.kinds()
    sums = {(name, kind): {} for name in web.places() for kind in kinds}
    for one, other, kind, width in web.ties():
        for place, end in ((one, other), (other, one)):
            heard = sums[(place, kind)]
            heard[number_of[end]] = heard.get(number_of[end], 0) + width
    return sums


def like_pairs(web, colouring):
    """The pairs (p, q) of places with one number, q behind p, by p and then by q."""
    numbered_places = list(zip(web.places(), colouring))
    pairs = []
    for at, (p, number) in enumerate(numbered_places):
        pairs.extend([(p, q) for q, also in numbered_places[at + 1:] if also == number])
    return pairs


def judge_balanced(web, value):
    """None if a value is a balanced colouring of web, else its first fault."""
    if not is_colouring(web, value):
        return ("form",)
    pairs = like_pairs(web, value)
    for p, q in pairs:
        if web.colour(p) != web.colour(q):
            return ("colour", p, q)
    kinds = web.kinds()
    sums = sums_of(web, value)
    for p, q in pairs:
        for kind in kinds:
            if sums[(p, kind)] != sums[(q, kind)]:
                return ("sum", p, q, kind)
    return None


def table(web, colouring):
    """The dict from (i, kind, j) to the sum of a place with number i to those with number j, where it is above 0."""
    number_of = dict(zip(web.places(), colouring))
    found = {}
    for (name, kind), sums in sums_of(web, colouring).items():
        for end, total in sums.items():
            found[(number_of[name], kind, end)] = total
    return found


def as_they_come(keys):
    """Numbers from 0, one for each different key, in the sequence in which they first come."""
    numbers = {}
    for key in keys:
        if key not in numbers:
            numbers[key] = len(numbers)
    return [numbers[key] for key in keys]


class Likeness:
    """Tells values apart by texts: two have one text if they are equal and of one kind throughout.

    Objects that are equal by an == of their own have no such text; those that were met are remembered instead.
    """

    def __init__(self):
        self._met = []

    def text(self, value):
        """The text of a value."""
        if isinstance(value, list):
            return "[" + ", ".join([self.text(part) for part in value]) + "]"
        if isinstance(value, tuple):
            return "(" + ", ".join([self.text(part) for part in value]) + ")"
        if isinstance(value, dict):
            parts = [repr(key) + ": " + self.text(value[key]) for key in value]
            return "{" + ", ".join(sorted(parts)) + "}"
        if value is None or isinstance(value, (int, str)):
            return repr(value)
        if value not in self._met:
            self._met.append(value)
        return f"number {self._met.index(value)}"


def numbered(web, value):
    """The colouring in which places have one number if their values are equal, numbered as they come."""
    likeness = Likeness()
    return as_they_come([likeness.text(part) for part in value])


def refines(first, last):
    """Whether places with one number in the first colouring have one number in the last one."""
    led = {}
    for number, other in zip(first, last):
        if led.setdefault(number, other) != other:
            return False
    return True


def coarsest(web, colouring):
    """The coarsest balanced colouring that refines this one, numbered as they come."""
    start = as_they_come([(web.colour(name), number) for name, number in zip(web.places(), colouring)])
    return as_they_come(refined(start, all_ends([web]), None)[-1])


def joined(numbers, also, number):
    """The numbers, with one in place of all those of places that have this number in also."""
    touched = [mine for mine, other in zip(numbers, also) if other == number]
    return [touched[0] if mine in touched else mine for mine in numbers]


def common_coarser(web, first, last):
    """The finest colouring that both balanced colourings refine, numbered as they come."""
    numbers = list(first)
    for number in sorted(set(last)):
        numbers = joined(numbers, last, number)
    return as_they_come(numbers)
