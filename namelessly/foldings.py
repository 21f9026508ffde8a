"""Foldings of a web over into a web: each place is led to one that looks and hears alike."""

from namelessly.errors import BadNumber, BadTie, UnknownName
from namelessly.helpers import is_number


def is_leading(value):
    """Whether a value is a dict of strings to strings."""
    if not isinstance(value, dict):
        return False
    return all([isinstance(key, str) and isinstance(value[key], str) for key in value])


def judge_names(over, web, value):
    """The first fault in what a dict of strings leads, and in where it leads; None if there is none."""
    places = over.places()
    for name in places:
        if name not in value:
            return ("missing", name)
    strange = [key for key in value if key not in over]
    if strange:
        return ("strange", min(strange))
    for name in places:
        if value[name] not in web:
            return ("unknown", name)
    for name in places:
        if web.colour(value[name]) != over.colour(name):
            return ("colour", name)
    return None


def widths_by_end(web, led):
    """For each place of web the dict from (end, kind) to the widths of its ties of this kind, led to this end."""
    widths = {name: {} for name in web.places()}
    for one, other, kind, width in web.ties():
        for place, end in ((one, other), (other, one)):
            spot = (led[end], kind)
            widths[place][spot] = widths[place].get(spot, 0) + width
    return widths


def judge_widths(over, web, folding):
    """The first place of over, place of web and kind at which the widths do not come to what they should."""
    above = widths_by_end(over, folding)
    below = widths_by_end(web, {name: name for name in web.places()})
    kinds = sorted(set(over.kinds() + web.kinds()))
    for name in over.places():
        found = above[name]
        wanted = below[folding[name]]
        if found != wanted:
            for place in web.places():
                for kind in kinds:
                    if found.get((place, kind), 0) != wanted.get((place, kind), 0):
                        return ("width", name, place, kind)
    return None


def judge_folding(over, web, value):
    """None if a value is a folding of over into web, else its first fault."""
    if not is_leading(value):
        return ("form",)
    fault = judge_names(over, web, value)
    if fault is not None:
        return fault
    return judge_widths(over, web, value)


def places_over(over, web, folding):
    """The dict from each place of web, in order, to the list of the places over it, in over's order."""
    found = {place: [] for place in web.places()}
    for name in over.places():
        found[folding[name]].append(name)
    return found


def is_onto(over, web, folding):
    """Whether each place of web has one over it."""
    return all([len(names) > 0 for names in places_over(over, web, folding).values()])


def is_spread(over, web, folding):
    """Whether each place of web has the same number over it, at least one."""
    many = [len(names) for names in places_over(over, web, folding).values()]
    return many[0] > 0 and all([number == many[0] for number in many])


def behind(first, last):
    """The dict that leads each key of first to where last leads what first leads it to."""
    for key in first:
        if first[key] not in last:
            raise UnknownName(first[key])
    return {key: last[first[key]] for key in first}


def need_numbers(web, colouring):
    """Raises BadNumber for the first thing that is no number from 0, then for a length that is not that of web."""
    for at, number in enumerate(colouring):
        if not is_number(number, 0):
            raise BadNumber(at)
    if len(colouring) != len(web):
        raise BadNumber(len(colouring))


def led_up(over, web, folding, colouring):
    """The list in which each place of over has the number of the place of web to which it is led."""
    need_numbers(web, colouring)
    number_of = dict(zip(web.places(), colouring))
    return [number_of[folding[name]] for name in over.places()]


def led_down(over, web, folding, colouring):
    """The list of the numbers that all places over each place of web have; None if there is no such list."""
    need_numbers(over, colouring)
    number_of = dict(zip(over.places(), colouring))
    down = []
    for names in places_over(over, web, folding).values():
        numbers = [number_of[name] for name in names]
        if len(set(numbers)) != 1:
            return None
        down.append(numbers[0])
    return down


def need_way(web, way):
    """Raises BadTie for the first tie of a value that makes it no way of web."""
    if not isinstance(way, tuple) or len(way) % 2 == 0 or not all([isinstance(word, str) for word in way]):
        raise BadTie(0)
    if way[0] not in web:
        raise BadTie(0)
    for number in range(len(way) // 2):
        one, kind, other = way[2 * number:2 * number + 3]
        if other not in web or web.width(one, other, kind) == 0:
            raise BadTie(number)


def way_product(web, way):
    """The product of the widths of the ties of a way, each as often as it is gone."""
    need_way(web, way)
    result = 1
    for at in range(1, len(way), 2):
        result = result * web.width(way[at - 1], way[at + 1], way[at])
    return result


def ways_up(over, web, folding, way, start):
    """The list of all ways of over that begin at start and lie over a way of web, by their first unlike place."""
    need_way(web, way)
    if start not in over or folding[start] != way[0]:
        raise UnknownName(start)
    above = places_over(over, web, folding)
    ways = [(start,)]
    for at in range(1, len(way), 2):
        kind = way[at]
        ends = above[way[at + 1]]
        ways = [up + (kind, end) for up in ways for end in ends if over.width(up[-1], end, kind) > 0]
    return ways
