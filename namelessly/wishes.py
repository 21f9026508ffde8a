"""Wishes for letters, places that can be told first, and places that have to be marked."""

from itertools import combinations

from namelessly.errors import BadNumber, TwiceTold, UnknownName
from namelessly.helpers import is_index
from namelessly.machines import class_letters, is_letter, is_machine, run, taught_machine
from namelessly.rounds import class_rows, need_webs, settled
from namelessly.webs import coloured, need_names, need_once


def is_entry(webs, entry):
    """Whether a value is a tuple (number of a web, anything, letter)."""
    if not isinstance(entry, tuple) or len(entry) != 3:
        return False
    return is_index(entry[0], len(webs)) and is_letter(entry[2])


def need_wish(webs, wish):
    """Raises the first error that a list of webs and a wish for them give."""
    need_webs(webs)
    wished = set()
    for k, entry in enumerate(wish):
        if not is_entry(webs, entry):
            raise BadNumber(k)
        number, name, _ = entry
        if name not in webs[number]:
            raise UnknownName(name)
        if (number, name) in wished:
            raise TwiceTold(name)
        wished.add((number, name))


def entry_spots(webs, wish):
    """Where the places of the entries stand in the row of the places of all webs."""
    places = [(number, name) for number, web in enumerate(webs) for name in web.places()]
    numbers = {place: at for at, place in enumerate(places)}
    return [numbers[(number, name)] for number, name, _ in wish]


def entry_classes(webs, wish, classes):
    """The classes of the places of the entries, from the row of the classes of all places."""
    return [classes[at] for at in entry_spots(webs, wish)]


def barring_pair(classes, wish):
    """The first two entries (i, j) of one class that want unlike letters, None if there are none."""
    for i, (_, _, letter) in enumerate(wish):
        for j in range(i + 1, len(wish)):
            if classes[i] == classes[j] and letter != wish[j][2]:
                return (i, j)
    return None


def wish_machine(webs, wish):
    """A machine that fulfils a wish, or the first two alike places from which unlike letters are wanted."""
    need_wish(webs, wish)
    rows = class_rows(webs, None)
    classes = entry_classes(webs, wish, rows[-1])
    pair = barring_pair(classes, wish)
    if pair is not None:
        return ("alike", pair[0], pair[1])
    wanted = {number: letter for number, (_, _, letter) in zip(classes, wish)}
    # Letters that are wanted are given in the last round: there has to be one, also where the colours tell enough.
    letters = class_letters(webs, rows, max(1, len(rows) - 1))
    letters[-1] = [wanted.get(number, "") for number in rows[-1]]
    return ("machine", taught_machine(webs, letters))


def judge_granted(webs, wish, machine):
    """The first entry whose place has another letter after all rounds, as a fault; None if there is none."""
    letters = [letter for web in webs for letter in run(web, machine)]
    for k, at in enumerate(entry_spots(webs, wish)):
        if letters[at] != wish[k][2]:
            return ("letter", k)
    return None


def names_two_entries(wish, value):
    """Whether a value is a tuple ("alike", i, j) with the numbers i < j of two entries."""
    if len(value) != 3 or value[0] != "alike":
        return False
    return is_index(value[2], len(wish)) and is_index(value[1], value[2])


def judge_wish(webs, wish, value):
    """None if a value is a paper as wish_machine makes, of however many rounds; else its first fault."""
    need_wish(webs, wish)
    if not isinstance(value, tuple):
        return ("form",)
    if len(value) == 2 and value[0] == "machine" and is_machine(value[1]):
        return judge_granted(webs, wish, value[1])
    if not names_two_entries(wish, value):
        return ("form",)
    _, i, j = value
    if wish[i][2] == wish[j][2]:
        return ("same",)
    classes = entry_classes(webs, wish, class_rows(webs, None)[-1])
    if classes[i] != classes[j]:
        return ("apart",)
    return None


def first_places(web):
    """The list of the places that are alone in their settled class."""
    classes = settled([web])[0]
    return [name for name, number in zip(web.places(), classes) if classes.count(number) == 1]


def first_machine(web, name):
    """A machine that gives a place a letter that no other one has, None if there is none."""
    if name not in web:
        raise UnknownName(name)
    rows = class_rows([web], None)
    if rows[-1].count(rows[-1][web.places().index(name)]) > 1:
        return None
    return taught_machine([web], class_letters([web], rows, len(rows) - 1))


def free_marks(web, many):
    """The first of the words m0, m1, .. that are no colours of the web."""
    taken = web.colours()
    marks = [f"m{number}" for number in range(many + len(taken))]
    return [mark for mark in marks if mark not in taken][:many]


def marked(web, names):
    """The web in which each place of a list has a new colour of its own."""
    need_names(web, names)
    need_once(names)
    return coloured(web, dict(zip(names, free_marks(web, len(names)))))


def alike_pair(web, names):
    """The first two places that are alike where those of a list are marked, None if there are none."""
    classes = settled([marked(web, names)])[0]
    for at, p in enumerate(web.places()):
        for q, number in list(zip(web.places(), classes))[at + 1:]:
            if number == classes[at]:
                return (p, q)
    return None


def fewest_marks(web):
    """A list of places, as short as can be, that leave no two places alike if they are marked."""
    places = web.places()
    for many in range(len(places)):
        for names in combinations(places, many):
            if alike_pair(web, list(names)) is None:
                return list(names)
    return places
