"""Webs: places that bear colours, and ties of kinds and widths between them."""

from namelessly.errors import BadName, BadNumber, BadTie, TooMany, TwiceTold, UnknownName
from namelessly.helpers import is_number, is_word


def need_word(value):
    """Raises BadName for a value that is no word."""
    if not is_word(value):
        raise BadName(value)


def need_once(names):
    """Raises TwiceTold for the first of these names that equals an earlier one."""
    told = set()
    for name in names:
        if name in told:
            raise TwiceTold(name)
        told.add(name)


def need_places(places):
    """Raises the first error that the places of a web give; none may be hashed ahead of its check."""
    if len(places) == 0:
        raise BadNumber(0)
    for name, colour in places:
        need_word(name)
        need_word(colour)
    need_once([name for name, _ in places])


def tie_spot(tie, names):
    """The two names, ascending, and the kind of a tie; None if it cannot stand between two of these names."""
    if not isinstance(tie, tuple) or len(tie) != 4:
        return None
    one, other, kind, width = tie
    if not isinstance(one, str) or not isinstance(other, str) or one == other:
        return None
    if one not in names or other not in names:
        return None
    if not is_word(kind) or not is_number(width, 1):
        return None
    return (min(one, other), max(one, other), kind)


def need_ties(ties, names):
    """Raises BadTie for the first tie that cannot stand behind those ahead of it."""
    spots = set()
    for at, tie in enumerate(ties):
        spot = tie_spot(tie, names)
        if spot is None or spot in spots:
            raise BadTie(at)
        spots.add(spot)


def ordered_ties(ties, names):
    """The ties, each from its earlier place on, by the positions of their places and then by kind."""
    numbers = {name: at for at, name in enumerate(names)}
    rows = []
    for one, other, kind, width in ties:
        first = min(numbers[one], numbers[other])
        last = max(numbers[one], numbers[other])
        rows.append((first, last, kind, width))
    return [(names[first], names[last], kind, width) for first, last, kind, width in sorted(rows)]


class Web:
    """Places with colours, in an order, and ties between them; it never changes."""

    def __init__(self, places, ties):
        need_places(places)
        self._colour_of = {name: colour for name, colour in places}
        need_ties(ties, self._colour_of)
        self._names = [name for name, _ in places]
        self._ties = ordered_ties(ties, self._names)
        self._width_of = {}
        for one, other, kind, width in self._ties:
            self._width_of[(one, other, kind)] = width
            self._width_of[(other, one, kind)] = width

    def places(self):
        """The names of the places, in order."""
        return list(self._names)

    def colour(self, name):
        """The colour of a place."""
        if name not in self:
            raise UnknownName(name)
        return self._colour_of[name]

    def ties(self):
        """The ties (one, other, kind, width), one ahead of other, by the positions of both and then by kind."""
        return list(self._ties)

    def kinds(self):
        """The kinds of the ties, ascending."""
        return sorted({tie[2] for tie in self._ties})

    def colours(self):
        """The colours of the places, ascending."""
        return sorted(set(list(self._colour_of.values())))

    def width(self, one, other, kind):
        """The width of the tie of this kind between two places, 0 if there is none."""
        if one not in self:
            raise UnknownName(one)
        if other not in self:
            raise UnknownName(other)
        if not isinstance(kind, str):
            return 0
        return self._width_of.get((one, other, kind), 0)

    def __contains__(self, name):
        return isinstance(name, str) and name in self._colour_of

    def __len__(self):
        return len(self._names)

    def __eq__(self, other):
        if not isinstance(other, Web):
            return False
        if self._names != other._names or self._colour_of != other._colour_of:
            return False
        return self._ties == other._ties


def reached_from(start, near):
    """A dict with the places as keys to which ties lead from a place, itself among them."""
    found = {start: True}
    waiting = [start]
    while waiting:
        place = waiting.pop()
        for name in near[place]:
            if name not in found:
                found[name] = True
                waiting.append(name)
    return found


def components(web):
    """The list of the components, each the list of its places, by their first places."""
    near = {name: [] for name in web.places()}
    for one, other, _, _ in web.ties():
        near[one].append(other)
        near[other].append(one)
    parts = []
    placed = {}
    for name in web.places():
        if name not in placed:
            found = reached_from(name, near)
            placed.update(found)
            parts.append([place for place in web.places() if place in found])
    return parts


def need_names(web, names):
    """Raises UnknownName for the first of these values that is not a place."""
    for name in names:
        if name not in web:
            raise UnknownName(name)


def renamed(web, names):
    """The web in which the places that are keys of a dict have the new names there."""
    need_names(web, names)
    new = {name: names.get(name, name) for name in web.places()}
    places = [(new[name], web.colour(name)) for name in web.places()]
    ties = [(new[one], new[other], kind, width) for one, other, kind, width in web.ties()]
    return Web(places, ties)


def coloured(web, colours):
    """The web in which the places that are keys of a dict have the new colours there."""
    need_names(web, colours)
    return Web([(name, colours.get(name, web.colour(name))) for name in web.places()], web.ties())


def beside(webs):
    """The web of all these webs side by side, and for each the dict from its places to their new names."""
    places = []
    ties = []
    dicts = []
    for web in webs:
        new = {}
        for name in web.places():
            new[name] = f"p{len(places)}"
            places.append((new[name], web.colour(name)))
        ties.extend([(new[one], new[other], kind, width) for one, other, kind, width in web.ties()])
        dicts.append(new)
    return (Web(places, ties), dicts)


def copies(web, many, *, most_places=240):
    """Many copies of one web side by side, as beside returns them."""
    if not is_number(many, 1):
        raise BadNumber(many)
    if many * len(web) > most_places:
        raise TooMany()
    return beside([web] * many)


def within(web, names):
    """The web of the places in a list, in the order of web, and of all ties between two of them."""
    need_names(web, names)
    # An empty list leaves no place, which Web itself refuses by the right error.
    inside = {name: True for name in names}
    places = [(name, web.colour(name)) for name in web.places() if name in inside]
    return Web(places, [tie for tie in web.ties() if tie[0] in inside and tie[1] in inside])
