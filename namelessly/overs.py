"""Webs over two webs at once: papers that show that the two are kin."""

from math import lcm

from namelessly.balanced import table
from namelessly.errors import TooMany, UnknownName
from namelessly.foldings import behind, is_spread, judge_folding
from namelessly.kin import kin
from namelessly.rounds import settled
from namelessly.webs import Web, components, within


def is_paper(value):
    """Whether a value is a tuple of a web and two dicts."""
    if not isinstance(value, tuple) or len(value) != 3:
        return False
    return isinstance(value[0], Web) and isinstance(value[1], dict) and isinstance(value[2], dict)


def judge_over(one, other, value):
    """None if a value is a web over both webs with its two spread foldings, else the first fault."""
    if not is_paper(value):
        return ("form",)
    web, first, last = value
    fault = judge_folding(web, one, first)
    if fault is not None:
        return ("first", fault)
    fault = judge_folding(web, other, last)
    if fault is not None:
        return ("last", fault)
    if not is_spread(web, one, first):
        return ("spread", 0)
    if not is_spread(web, other, last):
        return ("spread", 1)
    return None


def copies_of_all(web, classes):
    """The least number that each class, and each class times each of its sums above 0, divides."""
    many = {number: classes.count(number) for number in classes}
    result = 1
    for number in many:
        result = lcm(result, many[number])
    for (number, _, _), total in table(web, classes).items():
        result = lcm(result, many[number] * total)
    return result


def over_number(one, other):
    """How many places the web of the plain way over both has; None if they are not kin."""
    if not kin(one, other, None):
        return None
    return copies_of_all(one, settled([one, other])[0]) * len(other)


def end_rows(web, classes):
    """For each place the dict from (kind, class) to the row of its ends there, each as often as its tie is wide."""
    class_of = dict(zip(web.places(), classes))
    rows = {name: {} for name in web.places()}
    for one, other, kind, width in web.ties():
        for place, end in ((one, other), (other, one)):
            rows[place].setdefault((kind, class_of[end]), []).extend([end] * width)
    return rows


def over_spots(one, other):
    """The tuples (p, q, u) that are the places of the web over both: p and q of one class, u a copy."""
    first, last = settled([one, other])
    all_copies = copies_of_all(one, first)
    spots = []
    for p, number in zip(one.places(), first):
        for q, also in zip(other.places(), last):
            if number == also:
                spots.extend([(p, q, u) for u in range(all_copies // first.count(number))])
    return spots


def loose_ends(one, other, spots):
    """The dict from ((p, q), kind, (r, s)) to the list of the copies of (p, q) from which an end leads to (r, s).

    A copy is listed once for each end; the ends of p's row are turned against those of q's by the copy's number.
    """
    first, last = settled([one, other])
    rows = end_rows(one, first)
    also = end_rows(other, last)
    loose = {}
    for number, (p, q, u) in enumerate(spots):
        for kind, end_class in rows[p]:
            ends = rows[p][(kind, end_class)]
            across = also[q][(kind, end_class)]
            for v, r in enumerate(ends):
                s = across[(v + u) % len(across)]
                loose.setdefault(((p, q), kind, (r, s)), []).append(f"p{number}")
    return loose


def joined_ends(loose):
    """The ties that join what leads from one pair to another with what leads back, one to one."""
    widths = {}
    for pair, kind, end in loose:
        # Each two pairs come twice, once from either end.
        if pair < end:
            for name, other in zip(loose[(pair, kind, end)], loose[(end, kind, pair)]):
                widths[(name, other, kind)] = widths.get((name, other, kind), 0) + 1
    return [(name, other, kind, width) for (name, other, kind), width in widths.items()]


def web_over(one, other, *, most_places=240):
    """A web over both with its two foldings, None if they are not kin."""
    number = over_number(one, other)
    if number is None:
        return None
    if number > most_places:
        raise TooMany()
    spots = over_spots(one, other)
    places = [(f"p{at}", one.colour(spot[0])) for at, spot in enumerate(spots)]
    web = Web(places, joined_ends(loose_ends(one, other, spots)))
    first = {f"p{at}": spot[0] for at, spot in enumerate(spots)}
    last = {f"p{at}": spot[1] for at, spot in enumerate(spots)}
    return (web, first, last)


def turned_paper(paper):
    """The paper for the two webs the other way round."""
    web, first, last = paper
    return (web, dict(last), dict(first))


def folding_paper(web, folding):
    """The paper for a web and the one into which it folds, spread."""
    return (web, {name: name for name in web.places()}, dict(folding))


def paper_behind(paper, first, last):
    """The paper for the webs into which the two webs of a paper fold, spread."""
    return (paper[0], behind(paper[1], first), behind(paper[2], last))


def component_paper(paper, place):
    """The paper of the component of the paper's web in which a place lies."""
    web, first, last = paper
    if place not in web:
        raise UnknownName(place)
    part = [names for names in components(web) if place in names][0]
    return (within(web, part), {name: first[name] for name in part}, {name: last[name] for name in part})


def pairs_over(paper):
    """The dict from the tuples (p, q) to the number of places over p and over q at once, where it is above 0."""
    web, first, last = paper
    many = {}
    for name in web.places():
        pair = (first[name], last[name])
        many[pair] = many.get(pair, 0) + 1
    return many
