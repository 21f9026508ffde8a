"""Rounds: the classes of places that can be told apart by what is heard along the ties, round by round.

Within this file, and for the files that build on it, the places of all webs of a list stand in one row,
web by web: a row of classes has a number for each of them.
"""

from namelessly.errors import BadNumber
from namelessly.webs import Web


def need_webs(webs):
    """Raises BadNumber for the place of the first value in a list that is no web."""
    for at, web in enumerate(webs):
        if not isinstance(web, Web):
            raise BadNumber(at)


def first_classes(webs):
    """The row of classes of round 0: the numbers of the colours, ascending."""
    colours = sorted({colour for web in webs for colour in web.colours()})
    numbers = {colour: number for number, colour in enumerate(colours)}
    return [numbers[web.colour(name)] for web in webs for name in web.places()]


def all_ends(webs):
    """For each place in the row the list of (number of the kind, place in the row, width) of its ties."""
    kinds = sorted({kind for web in webs for kind in web.kinds()})
    kind_numbers = {kind: number for number, kind in enumerate(kinds)}
    ends = []
    for web in webs:
        begin = len(ends)
        numbers = {name: begin + at for at, name in enumerate(web.places())}
        ends.extend([[] for _ in range(len(web))])
        for one, other, kind, width in web.ties():
            ends[numbers[one]].append((kind_numbers[kind], numbers[other], width))
            ends[numbers[other]].append((kind_numbers[kind], numbers[one], width))
    return ends


def kind_ends(web):
    """The dict from each kind to the list, place by place, of (place in the row, width) of its ties of this kind."""
    numbers = {name: at for at, name in enumerate(web.places())}
    ends = {kind: [[] for _ in range(len(web))] for kind in web.kinds()}
    for one, other, kind, width in web.ties():
        ends[kind][numbers[one]].append((numbers[other], width))
        ends[kind][numbers[other]].append((numbers[one], width))
    return ends


def summed(ends, row):
    """Place by place the sum of what a row of numbers has at the ends of its ties, times their widths."""
    return [sum([width * row[place] for place, width in mine]) for mine in ends]


def sums_key(classes, ends):
    """The sums of a place's widths, kind by kind and class by class, as a tuple that sorts as the whole row does.

    Only sums above 0 are kept, as pairs (spot, sum). Where two whole rows first differ by a sum that
    one of them has not, the one without it is the lesser; so spots are counted below 0.
    """
    sums = {}
    for kind, place, width in ends:
        spot = kind * len(classes) + classes[place]
        sums[spot] = sums.get(spot, 0) + width
    return tuple([(-spot, sums[spot]) for spot in sorted(sums)])


def next_classes(classes, ends):
    """The row of classes of the round behind one with these classes."""
    keys = [(classes[at], sums_key(classes, ends[at])) for at in range(len(classes))]
    numbers = {key: number for number, key in enumerate(sorted(set(keys)))}
    return [numbers[key] for key in keys]


def refined(classes, ends, k):
    """The rows of classes of rounds 0 to k, where these classes are those of round 0; none behind the settled one.

    If k is None, all to the settled one. Numbers go by those of the round before, so a settled row comes again as
    it is.
    """
    rows = [classes]
    while k is None or len(rows) <= k:
        later = next_classes(rows[-1], ends)
        if later == rows[-1]:
            break
        rows.append(later)
    return rows


def class_rows(webs, k):
    """The rows of classes of a list of webs in rounds 0 to k, as refined tells them; the last one is that of k."""
    return refined(first_classes(webs), all_ends(webs), k)


def web_by_web(webs, classes):
    """The colouring of a list of webs that a row of classes tells."""
    colouring = []
    begin = 0
    for web in webs:
        colouring.append(classes[begin:begin + len(web)])
        begin += len(web)
    return colouring


def rounds(webs, k):
    """The list of the colourings of rounds 0 to k."""
    need_webs(webs)
    rows = class_rows(webs, k)
    return [web_by_web(webs, rows[min(at, len(rows) - 1)]) for at in range(k + 1)]


def settled(webs):
    """The settled colouring."""
    need_webs(webs)
    return web_by_web(webs, class_rows(webs, None)[-1])


def settling_round(webs):
    """The number of the first settled round."""
    need_webs(webs)
    return len(class_rows(webs, None)) - 1


def class_count(webs, k):
    """The number of classes of round k."""
    need_webs(webs)
    return len(set(class_rows(webs, k)[-1]))
