"""Changes: deeds on one tie, and what changes all ties or places of webs alike."""

from namelessly.errors import BadNumber, BadTie, TooMany, UnknownName
from namelessly.helpers import is_index, is_integer, is_number
from namelessly.rounds import settled
from namelessly.webs import Web, need_names, need_word, tie_spot, within


def colour_pairs(web):
    """The list of the tuples (name, colour) of the places."""
    return [(name, web.colour(name)) for name in web.places()]


def with_width(web, one, other, kind, width):
    """The web in which the tie of this kind between two places has this width; with width 0 there is none."""
    spots = ((one, other, kind), (other, one, kind))
    ties = [tie for tie in web.ties() if tie[:3] not in spots]
    if width > 0:
        ties.append((one, other, kind, width))
    return Web(colour_pairs(web), ties)


def with_tie(web, one, other, kind, width):
    """The web with one more tie."""
    need_names(web, [one, other])
    if tie_spot((one, other, kind, width), web) is None or web.width(one, other, kind) > 0:
        raise BadTie(0)
    return with_width(web, one, other, kind, width)


def width_there(web, one, other, kind):
    """The width of the tie of this kind between two places, of which there has to be one."""
    width = web.width(one, other, kind)
    if width == 0:
        raise BadTie(0)
    return width


def without_tie(web, one, other, kind):
    """The web without a tie."""
    width_there(web, one, other, kind)
    return with_width(web, one, other, kind, 0)


def widened(web, one, other, kind, more):
    """The web in which a tie is wider by more."""
    width = width_there(web, one, other, kind)
    if not is_integer(more) or width + more < 1:
        raise BadNumber(more)
    return with_width(web, one, other, kind, width + more)


def times(web, kind, many):
    """The web in which all ties of a kind are many times as wide."""
    if not is_number(many, 1):
        raise BadNumber(many)
    ties = [tie[:3] + (tie[3] * many,) if tie[2] == kind else tie for tie in web.ties()]
    return Web(colour_pairs(web), ties)


def struck(web, kind):
    """The web without the ties of a kind."""
    return Web(colour_pairs(web), [tie for tie in web.ties() if tie[2] != kind])


def merged_kinds(web, kind, into):
    """The web in which the ties of one kind are of another one instead."""
    need_word(into)
    widths = {}
    for one, other, old, width in web.ties():
        spot = (one, other, into if old == kind else old)
        widths[spot] = widths.get(spot, 0) + width
    return Web(colour_pairs(web), [spot + (width,) for spot, width in widths.items()])


def mapped_colours(web, colours):
    """The web in which each colour that is a key of a dict is the new one there instead."""
    for colour in sorted(colours):
        need_word(colours[colour])
    return Web([(name, colours.get(colour, colour)) for name, colour in colour_pairs(web)], web.ties())


def product_places(one, other, colours, most_places):
    """The list of the tuples (name, colour) of the places of a product."""
    pairs = [(one.colour(p), other.colour(q)) for p in one.places() for q in other.places()]
    for pair in pairs:
        if pair not in colours:
            raise UnknownName(pair)
    for pair in pairs:
        need_word(colours[pair])
    if len(pairs) > most_places:
        raise TooMany()
    return [(f"p{at}", colours[pair]) for at, pair in enumerate(pairs)]


def product_names(one, other):
    """The dict from the pairs (p, q) to the names of the places of a product."""
    pairs = [(p, q) for p in one.places() for q in other.places()]
    return {pair: f"p{at}" for at, pair in enumerate(pairs)}


def product(one, other, colours, *, most_places=240):
    """The product of two webs, in whose ties both sides move."""
    places = product_places(one, other, colours, most_places)
    names = product_names(one, other)
    ties = []
    for p, r, kind, width in one.ties():
        for q, s, also, across in other.ties():
            if kind == also:
                ties.append((names[(p, q)], names[(r, s)], kind, width * across))
                ties.append((names[(p, s)], names[(r, q)], kind, width * across))
    return Web(places, ties)


def moving_product(one, other, colours, *, most_places=240):
    """The product of two webs, in whose ties one side moves and the other one stays."""
    places = product_places(one, other, colours, most_places)
    names = product_names(one, other)
    ties = []
    for p, r, kind, width in one.ties():
        ties.extend([(names[(p, q)], names[(r, q)], kind, width) for q in other.places()])
    for q, s, kind, width in other.ties():
        ties.extend([(names[(p, q)], names[(p, s)], kind, width) for p in one.places()])
    return Web(places, ties)


def taken_out(webs, number):
    """The list of the webs without their places of one settled class."""
    colouring = settled(webs)
    if not is_index(number, 1 + max([max(classes) for classes in colouring])):
        raise BadNumber(number)
    left = []
    for web, classes in zip(webs, colouring):
        left.append([name for name, mine in zip(web.places(), classes) if mine != number])
    if not all(left):
        raise BadNumber(number)
    return [within(web, names) for web, names in zip(webs, left)]
