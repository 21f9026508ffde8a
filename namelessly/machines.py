"""Machines without names: all places run the same rules on what they hear along their ties."""

from namelessly.errors import BadMachine
from namelessly.helpers import is_number, is_word
from namelessly.kin import separating_round
from namelessly.rounds import class_rows, kind_ends, need_webs
from namelessly.webs import beside


def is_letter(value):
    """Whether a value is a word or the empty string."""
    return value == "" or is_word(value)


def is_heard(value):
    """Whether a value is a tuple of (kind, letter, number), strictly ascending by kind and then by letter."""
    if not isinstance(value, tuple):
        return False
    for part in value:
        if not isinstance(part, tuple) or len(part) != 3:
            return False
        kind, letter, number = part
        if not is_word(kind) or not is_letter(letter) or not is_number(number, 1):
            return False
    return all([part[:2] < behind[:2] for part, behind in zip(value, value[1:])])


def is_rule(value):
    """Whether a value is a tuple (letter, heard, new)."""
    if not isinstance(value, tuple) or len(value) != 3:
        return False
    return is_letter(value[0]) and is_heard(value[1]) and is_letter(value[2])


def is_machine_round(value):
    """Whether a value is a tuple of rules, each for another letter or for something else heard."""
    if not isinstance(value, tuple) or not all([is_rule(rule) for rule in value]):
        return False
    return len({(letter, heard) for letter, heard, _ in value}) == len(value)


def wrong_round(value):
    """The number of the first entry of a value that is no round, 0 if it is no tuple; None if it is a machine."""
    if not isinstance(value, tuple):
        return 0
    for number, entry in enumerate(value):
        if not is_machine_round(entry):
            return number
    return None


def is_machine(value):
    """Whether a value is a machine."""
    return wrong_round(value) is None


def need_machine(value):
    """Raises BadMachine for the first entry of a value that is no round."""
    number = wrong_round(value)
    if number is not None:
        raise BadMachine(number)


def heard_at(ends, letters, at):
    """What a place hears; ends are those that kind_ends tells."""
    heard = []
    for kind in sorted(ends):
        sums = {}
        for place, width in ends[kind][at]:
            sums[letters[place]] = sums.get(letters[place], 0) + width
        heard.extend([(kind, letter, sums[letter]) for letter in sorted(sums)])
    return tuple(heard)


def letters_behind(web, machine):
    """The list of the lists of letters that a machine gives, round by round."""
    ends = kind_ends(web)
    rows = [[web.colour(name) for name in web.places()]]
    for rules in machine:
        letters = rows[-1]
        new_of = {(letter, heard): new for letter, heard, new in rules}
        rows.append([new_of.get((letters[at], heard_at(ends, letters, at)), "") for at in range(len(web))])
    return rows


def run_rounds(web, machine):
    """The list of the lists of letters of the places: at the start, then after each round."""
    need_machine(machine)
    return letters_behind(web, machine)


def run(web, machine):
    """The list of the letters of the places after all rounds."""
    return run_rounds(web, machine)[-1]


def letter_counts(web, machine):
    """The dict from each letter that is there after all rounds to the number of its places, ascending."""
    letters = run(web, machine)
    return {letter: letters.count(letter) for letter in sorted(set(letters))}


def taught_round(ends, letters, later):
    """The round of rules by which places with these letters get the later ones."""
    rules = {}
    for at, letter in enumerate(letters):
        rules[(letter, heard_at(ends, letters, at))] = later[at]
    return tuple([(letter, heard, rules[(letter, heard)]) for letter, heard in sorted(rules)])


def class_letters(webs, rows, k):
    """The rows of letters, 0 to k, of a machine behind whose rounds each class has its own; rows are class_rows'."""
    letters = [[web.colour(name) for web in webs for name in web.places()]]
    for number in range(1, k + 1):
        classes = rows[min(number, len(rows) - 1)]
        letters.append([f"c{at}" for at in classes])
    return letters


def taught_machine(webs, letters):
    """The machine that takes the places of a list of webs through these rows of letters."""
    ends = kind_ends(beside(webs)[0])
    return tuple([taught_round(ends, row, later) for row, later in zip(letters, letters[1:])])


def class_machine(webs, k):
    """A machine of k rounds behind which places have one letter exactly if they are of one class of round k."""
    need_webs(webs)
    return taught_machine(webs, class_letters(webs, class_rows(webs, k), k))


def separating_machine(one, other):
    """A machine that separates two webs, of as many rounds as their separating round is; None if they are kin."""
    h = separating_round(one, other)
    if h is None:
        return None
    return class_machine([one, other], h)


def judge_machine(one, other, value, h):
    """None if a value is a machine of at most h rounds that separates two webs, else its first fault."""
    if not is_machine(value):
        return ("form",)
    if len(value) > h:
        return ("rounds", len(value))
    first = letter_counts(one, value)
    last = letter_counts(other, value)
    for letter in list(first) + list(last):
        if first.get(letter, 0) * len(other) != last.get(letter, 0) * len(one):
            return None
    return ("shares",)


def judge_class_machine(webs, k, value):
    """None if a value is a machine as class_machine makes, else its first fault."""
    need_webs(webs)
    if not is_machine(value):
        return ("form",)
    if len(value) != k:
        return ("rounds", len(value))
    places = [(number, name) for number, web in enumerate(webs) for name in web.places()]
    letters = [letter for web in webs for letter in run(web, value)]
    classes = class_rows(webs, k)[-1]
    for at, p in enumerate(places):
        for behind in range(at + 1, len(places)):
            if (letters[at] == letters[behind]) != (classes[at] == classes[behind]):
                return ("places", p, places[behind])
    return None
