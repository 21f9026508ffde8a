"""Webs as texts, a line for each place and each tie."""

from namelessly.errors import BadText
from namelessly.helpers import DIGITS, is_word
from namelessly.webs import Web, tie_spot


def web_text(web):
    """The text of a web: the lines of its places, then those of its ties."""
    lines = [f"place {name} {web.colour(name)}" for name in web.places()]
    lines.extend([f"tie {one} {other} {kind} {width}" for one, other, kind, width in web.ties()])
    return "\n".join(lines)


def read_width(word):
    """The number that is written in digits, without a sign and without leading zeros; 0 if none is."""
    if word == "" or word[0] == "0" or not all([digit in DIGITS for digit in word]):
        return 0
    return int(word)


def read_place(words):
    """The name and the colour of a line of a place, None if it is no such line."""
    if len(words) != 3 or words[0] != "place":
        return None
    if not is_word(words[1]) or not is_word(words[2]):
        return None
    return (words[1], words[2])


def read_tie(words):
    """The tie of a line of a tie, None if it is no such line; whether it can stand is not looked at."""
    if len(words) != 5 or words[0] != "tie":
        return None
    return (words[1], words[2], words[3], read_width(words[4]))


def read_web(text):
    """The web of a text; BadText tells the number of the first line that cannot stand."""
    colours = {}
    ties = {}
    for at, line in enumerate(text.split("\n")):
        words = line.split(" ")
        place = read_place(words)
        tie = read_tie(words)
        spot = tie_spot(tie, colours)
        if place is not None and place[0] not in colours:
            colours[place[0]] = place[1]
        elif spot is not None and spot not in ties:
            ties[spot] = tie
        else:
            raise BadText(at)
    return Web(list(colours.items()), list(ties.values()))
