"""Deeds: what a moment of an office becomes by one of them.

What an office keeps at one moment is a dict from the names of its webs to tuples (web, wanted), where wanted is a
dict from places to letters. Such a dict is never changed; a deed makes a new one.
"""

from namelessly.changes import with_width
from namelessly.errors import BadDeed, BadTie, TooMany, TwiceTold, UnknownName
from namelessly.helpers import is_number
from namelessly.webs import Web, coloured, need_names, need_word, within

MOST_WEBS = 6
MOST_PLACES = 12
MOST_MOMENTS = 200


def web_there(moment, name):
    """The web of this name and the dict of its wanted letters."""
    if not isinstance(name, str) or name not in moment:
        raise UnknownName(name)
    return moment[name]


def with_web(moment, name, web, wanted):
    """The moment in which a name has this web and these wanted letters."""
    changed = dict(moment)
    changed[name] = (web, wanted)
    return changed


def after_open(moment, deed):
    """The moment in which a web of one place has come."""
    _, name, place, colour = deed
    need_word(name)
    if name in moment:
        raise TwiceTold(name)
    need_word(place)
    need_word(colour)
    return with_web(moment, name, Web([(place, colour)], []), {})


def after_close(moment, deed):
    """The moment in which a web has gone."""
    _, name = deed
    web_there(moment, name)
    return {other: moment[other] for other in moment if other != name}


def after_come(moment, deed):
    """The moment in which a place has come."""
    _, name, place, colour = deed
    web, wanted = web_there(moment, name)
    need_word(place)
    if place in web:
        raise TwiceTold(place)
    need_word(colour)
    places = [(other, web.colour(other)) for other in web.places()] + [(place, colour)]
    return with_web(moment, name, Web(places, web.ties()), wanted)


def after_go(moment, deed):
    """The moment in which a place has gone."""
    _, name, place = deed
    web, wanted = web_there(moment, name)
    need_names(web, [place])
    if len(web) == 1:
        raise BadDeed()
    left = within(web, [other for other in web.places() if other != place])
    return with_web(moment, name, left, {other: wanted[other] for other in wanted if other != place})


def after_colour(moment, deed):
    """The moment in which a place has got a colour."""
    _, name, place, colour = deed
    web, wanted = web_there(moment, name)
    need_names(web, [place])
    need_word(colour)
    return with_web(moment, name, coloured(web, {place: colour}), wanted)


def after_tie(moment, deed):
    """The moment in which a tie has got a width."""
    _, name, one, other, kind, width = deed
    web, wanted = web_there(moment, name)
    need_names(web, [one, other])
    if one == other:
        raise BadTie(0)
    need_word(kind)
    if not is_number(width, 1):
        raise BadTie(0)
    return with_web(moment, name, with_width(web, one, other, kind, width), wanted)


def after_untie(moment, deed):
    """The moment in which a tie has gone."""
    _, name, one, other, kind = deed
    web, wanted = web_there(moment, name)
    if web.width(one, other, kind) == 0:
        raise UnknownName(kind)
    return with_web(moment, name, with_width(web, one, other, kind, 0), wanted)


def after_want(moment, deed):
    """The moment in which a letter is wanted at a place."""
    _, name, place, letter = deed
    web, wanted = web_there(moment, name)
    need_names(web, [place])
    need_word(letter)
    changed = dict(wanted)
    changed[place] = letter
    return with_web(moment, name, web, changed)


def after_unwant(moment, deed):
    """The moment in which no letter is wanted at a place."""
    _, name, place = deed
    web, wanted = web_there(moment, name)
    need_names(web, [place])
    return with_web(moment, name, web, {other: wanted[other] for other in wanted if other != place})


LENGTHS = {"open": 4, "close": 2, "come": 4, "go": 3, "colour": 4, "tie": 6, "untie": 5, "want": 4, "unwant": 3}
ACTIONS = {
    "open": after_open, "close": after_close, "come": after_come, "go": after_go, "colour": after_colour,
    "tie": after_tie, "untie": after_untie, "want": after_want, "unwant": after_unwant,
}


def is_deed(value):
    """Whether a value is a tuple that begins with a deed's word and is as long as that deed."""
    if not isinstance(value, tuple) or len(value) == 0:
        return False
    return isinstance(value[0], str) and value[0] in LENGTHS and len(value) == LENGTHS[value[0]]


def after(moment, deed):
    """What a moment becomes by a deed; the limits are not looked at."""
    if not is_deed(deed):
        raise BadDeed()
    action = ACTIONS[deed[0]]
    return action(moment, deed)


def need_room(moment, many):
    """Raises TooMany if a moment keeps more than it may, or cannot be made behind as many as there are."""
    if len(moment) > MOST_WEBS or many >= MOST_MOMENTS:
        raise TooMany()
    for name in moment:
        if len(moment[name][0]) > MOST_PLACES:
            raise TooMany()
