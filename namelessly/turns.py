"""Turned copies: a web over another one, in which the copies of each tie are turned."""

from namelessly.errors import BadNumber, TooMany
from namelessly.helpers import is_integer
from namelessly.webs import Web


def need_turns(ties, turns):
    """Raises BadNumber for the first thing that is no integer, then for a length that is not that of the ties."""
    for at, turn in enumerate(turns):
        if not is_integer(turn):
            raise BadNumber(at)
    if len(turns) != len(ties):
        raise BadNumber(len(turns))


def turned_copies(web, many, turns, *, most_places=240):
    """The web of many copies of each place, its ties turned as told, and the folding into web."""
    need_turns(web.ties(), turns)
    if many * len(web) > most_places:
        raise TooMany()
    first_copy = {name: at * many for at, name in enumerate(web.places())}
    places = [(f"p{first_copy[name] + u}", web.colour(name)) for name in web.places() for u in range(many)]
    folding = {f"p{first_copy[name] + u}": name for name in web.places() for u in range(many)}
    ties = []
    for (one, other, kind, width), turn in zip(web.ties(), turns):
        for u in range(many):
            end = first_copy[other] + (u + turn) % many
            ties.append((f"p{first_copy[one] + u}", f"p{end}", kind, width))
    return (Web(places, ties), folding)
