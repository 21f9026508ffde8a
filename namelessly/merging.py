"""Merges: which moments are elders of which, and how two moments become one, spot by spot.

Moments are dicts as in deeds; entries are those of a log, entry k telling of moment k + 1.
"""

from namelessly.webs import Web

RANKS = {"web": 0, "place": 1, "tie": 2, "want": 3}


def came_of(entries, number):
    """The numbers of the moments that a moment came of itself."""
    if number == 0:
        return []
    first, deed = entries[number - 1]
    return [first, deed[1]] if deed[0] == "merge" else [first]


def elders_in(entries, number):
    """The ascending list of the elders of a moment."""
    found = {number: True}
    # Each moment came of earlier ones alone.
    for at in reversed(range(number + 1)):
        if at in found:
            for also in came_of(entries, at):
                found[also] = True
    return sorted(found)


def last_common_in(entries, one, other):
    """The number of the last common moment of two."""
    also = elders_in(entries, other)
    return max([number for number in elders_in(entries, one) if number in also])


def spots_of(moment):
    """The dict from the spots of a moment to what it has there."""
    found = {}
    for name in moment:
        web, wanted = moment[name]
        found[("web", name)] = True
        for place in web.places():
            found[("place", name, place)] = web.colour(place)
        for one, other, kind, width in web.ties():
            found[("tie", name, min(one, other), max(one, other), kind)] = width
        for place in wanted:
            found[("want", name, place)] = wanted[place]
    return found


def in_order(spots):
    """The list of the spots, each once: webs, places, ties and wanted letters, each ascending."""
    return [spot for _, spot in sorted({(RANKS[spot[0]], spot) for spot in spots})]


def unlike_spots(first, second, elder):
    """The list of the spots at which both moments differ from the elder and from each other."""
    found = []
    for spot in list(first) + list(second) + list(elder):
        mine, also, before = first.get(spot), second.get(spot), elder.get(spot)
        if mine != also and mine != before and also != before:
            found.append(spot)
    return found


def joined_spots(first, second, elder):
    """The dict from the spots to what the merged moment has there, where the moments do not clash."""
    found = {}
    for spot in list(first) + list(second):
        mine, also, before = first.get(spot), second.get(spot), elder.get(spot)
        value = also if mine == before else mine
        if value is not None:
            found[spot] = value
    return found


def loose_spots(spots):
    """The list of the spots at which something is amiss: webs and places that lack what belongs to them."""
    housing = {spot[1]: True for spot in spots if spot[0] == "place"}
    found = [spot for spot in spots if spot[0] == "web" and spot[1] not in housing]
    found.extend([("web", name) for name in housing if ("web", name) not in spots])
    for spot in spots:
        # The places of a tie stand where the place of a wanted letter stands, too.
        places = spot[2:4] if spot[0] == "tie" else spot[2:3]
        found.extend([("place", spot[1], place) for place in places if ("place", spot[1], place) not in spots])
    return found


def clash_spots(first, second, elder):
    """The list of the spots at which two moments clash, in order."""
    mine, also, before = spots_of(first), spots_of(second), spots_of(elder)
    found = unlike_spots(mine, also, before)
    if not found:
        found = loose_spots(joined_spots(mine, also, before))
    return in_order(found)


def places_there(moment, name):
    """The list of the places of a web of a moment; none if there is no such web."""
    return moment[name][0].places() if name in moment else []


def merged_web(spots, name, places):
    """The web that the spots tell of, with its places in this order, and the dict of its wanted letters."""
    ties = [spot[2:] + (spots[spot],) for spot in spots if spot[:2] == ("tie", name)]
    wanted = {spot[2]: spots[spot] for spot in spots if spot[:2] == ("want", name)}
    return (Web([(place, spots[("place", name, place)]) for place in places], ties), wanted)


def merged_moment(first, second, elder):
    """The moment that two moments that do not clash become."""
    spots = joined_spots(spots_of(first), spots_of(second), spots_of(elder))
    moment = {}
    for name in sorted([spot[1] for spot in spots if spot[0] == "web"]):
        places = places_there(first, name)
        places.extend([place for place in places_there(second, name) if place not in places])
        moment[name] = merged_web(spots, name, [place for place in places if ("place", name, place) in spots])
    return moment
