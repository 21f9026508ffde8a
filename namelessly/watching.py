"""Watching an office: what is to be told of its webs, and how that changes from moment to moment."""

from namelessly.deeds import web_there
from namelessly.kin import separating_round
from namelessly.machines import judge_machine, separating_machine
from namelessly.office import need_moments, wanted_pairs
from namelessly.webs import need_once
from namelessly.weights import judge_weights, weight_table
from namelessly.wishes import wish_machine


def webs_there(office, number, names):
    """The list of the webs of these names at a moment."""
    need_moments(office, [number])
    return [web_there(office.book.moments[number], name)[0] for name in names]


def verdict_on(one, other):
    """The verdict on two webs."""
    h = separating_round(one, other)
    return "kin" if h is None else h


def verdict_then(moment, one, other):
    """The verdict on the webs of two names at a moment, None if there is none of one of the names."""
    if one not in moment or other not in moment:
        return None
    return verdict_on(moment[one][0], moment[other][0])


def name_pairs(names):
    """The list of the pairs of these names, the lesser one first, ascending."""
    ordered = sorted(names)
    return [(one, other) for at, one in enumerate(ordered) for other in ordered[at + 1:]]


def verdict(office, number, one, other):
    """The verdict on two webs of a moment."""
    first, last = webs_there(office, number, [one, other])
    return verdict_on(first, last)


def verdicts(office, number):
    """The list of the tuples (one, other, verdict) for all pairs of webs of a moment."""
    need_moments(office, [number])
    moment = office.book.moments[number]
    return [(one, other, verdict_then(moment, one, other)) for one, other in name_pairs(moment)]


def verdict_paper(office, number, one, other):
    """A verdict paper for two webs of a moment."""
    first, last = webs_there(office, number, [one, other])
    table = weight_table(first, last)
    if table is None:
        return ("apart", separating_machine(first, last))
    return ("kin", table)


def judge_verdict(office, number, one, other, value):
    """None if a value is a verdict paper for two webs of a moment, else its first fault."""
    first, last = webs_there(office, number, [one, other])
    if not isinstance(value, tuple) or len(value) != 2:
        return ("form",)
    if value[0] == "kin":
        fault = judge_weights(first, last, value[1])
    elif value[0] == "apart":
        # However many rounds a machine has, so many are allowed.
        many = len(value[1]) if isinstance(value[1], tuple) else 0
        fault = judge_machine(first, last, value[1], many)
    else:
        return ("form",)
    return None if fault is None else ("paper", fault)


def wish_of(office, number, names):
    """The list of the webs of these names and their wish."""
    webs = webs_there(office, number, names)
    need_once(names)
    wish = []
    for at, name in enumerate(names):
        web, wanted = office.book.moments[number][name]
        wish.extend([(at, place, letter) for place, letter in wanted_pairs(web, wanted)])
    return (webs, wish)


def wish_result(office, number, names):
    """What wish_machine tells of the webs of these names and their wish."""
    webs, wish = wish_of(office, number, names)
    return wish_machine(webs, wish)


def barred_webs(office, number):
    """The ascending list of the names of the webs whose own wish no machine can fulfil."""
    need_moments(office, [number])
    return [name for name in sorted(office.book.moments[number]) if wish_result(office, number, [name])[0] == "alike"]


def changes(office, first, second):
    """The changes from one moment to another one."""
    need_moments(office, [first, second])
    start = office.book.moments[first]
    end = office.book.moments[second]
    found = []
    for one, other in name_pairs({**start, **end}):
        before = verdict_then(start, one, other)
        behind = verdict_then(end, one, other)
        if before != behind:
            found.append((one, other, before, behind))
    return found


def would_change(office, deed):
    """The changes that a deed would make at the present moment."""
    twin = office.twin()
    number = twin.do(deed)
    return changes(twin, office.present(), number)


def verdict_line(office, one, other):
    """The list of the verdicts on two webs along the trail of the branch in which the office stands, to the mark."""
    webs_there(office, office.present(), [one, other])
    trail = office.trail(office.here())
    numbers = trail[:office.mark(office.here()) + 1]
    return [verdict_then(office.book.moments[number], one, other) for number in numbers]


def steady_from(office, one, other):
    """The least index in the verdict line from which all verdicts are as the last one."""
    line = verdict_line(office, one, other)
    index = len(line) - 1
    while index > 0 and line[index - 1] == line[-1]:
        index -= 1
    return index


def first_turn(office, one, other, deeds):
    """The number of the first deed of a list after which the verdict is another one, None if there is none."""
    start = verdict(office, office.present(), one, other)
    twin = office.twin()
    for at, deed in enumerate(deeds):
        number = twin.do(deed)
        if verdict_then(twin.book.moments[number], one, other) != start:
            return at
    return None
