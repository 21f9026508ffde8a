"""An office told once more, word by word as points 10.1 to 10.7 do, and other than the package does it.

A moment is a dict with the webs: from names to dicts with places, a list of [name, colour]; ties, a dict from
(lesser name, greater name, kind) to widths; wants, a dict from places to letters. Errors are told as tuples.
"""

import copy
import random
import re

from namelessly.errors import (
    BadDeed, BadName, BadTie, Clash, NoMoment, NothingDone, TooMany, TwiceTold, UnknownName,
)
from namelessly.office import Office
from namelessly.webs import Web
from tests.support import odd_values

FIRST = [("open", "g", "a", "x"), ("come", "g", "b", "x"), ("tie", "g", "a", "b", "k", 1), ("want", "g", "a", "first")]
KINDS = {"web": 0, "place": 1, "tie": 2, "want": 3}


class Refused(Exception):
    """An error that the package is to raise: its class, and what it tells, if anything."""

    def __init__(self, kind, *told):
        super().__init__(kind, told)
        self.kind, self.told = kind, told


def word(value):
    return isinstance(value, str) and re.fullmatch("[a-z]{1,8}([0-9]{1,4})?", value) is not None


def need_word(value):
    if not word(value):
        raise Refused(BadName, value)


def found(names, value):
    return any(type(value) is str and name == value for name in names)


def tie_spot(one, other, kind):
    return (min(one, other), max(one, other), kind)


def plain_deed(moment, deed):
    """The moment behind a deed."""
    lengths = {"open": 4, "close": 2, "come": 4, "go": 3, "colour": 4, "tie": 6, "untie": 5, "want": 4, "unwant": 3}
    if not isinstance(deed, tuple) or not deed or not found(lengths, deed[0]) or len(deed) != lengths[deed[0]]:
        raise Refused(BadDeed)
    moment = copy.deepcopy(moment)
    kind, name = deed[:2]
    if kind == "open":
        need_word(name)
        if name in moment:
            raise Refused(TwiceTold, name)
        need_word(deed[2])
        need_word(deed[3])
        moment[name] = {"places": [[deed[2], deed[3]]], "ties": {}, "wants": {}}
        return moment
    if not found(moment, name):
        raise Refused(UnknownName, name)
    web = moment[name]
    names = [place for place, _ in web["places"]]
    if kind == "close":
        del moment[name]
    elif kind == "come":
        need_word(deed[2])
        if deed[2] in names:
            raise Refused(TwiceTold, deed[2])
        need_word(deed[3])
        web["places"].append([deed[2], deed[3]])
    else:
        for value in deed[2:4] if kind in ("tie", "untie") else deed[2:3]:
            if not found(names, value):
                raise Refused(UnknownName, value)
        plain_place_deed(web, deed)
    return moment


def plain_place_deed(web, deed):
    """What a deed on places that are there does to a web."""
    kind, place = deed[0], deed[2]
    if kind == "go":
        if len(web["places"]) == 1:
            raise Refused(BadDeed)
        web["places"] = [pair for pair in web["places"] if pair[0] != place]
        web["ties"] = {spot: width for spot, width in web["ties"].items() if place not in spot[:2]}
        web["wants"].pop(place, None)
    elif kind == "colour":
        need_word(deed[3])
        web["places"] = [[name, deed[3] if name == place else colour] for name, colour in web["places"]]
    elif kind == "tie":
        if place == deed[3]:
            raise Refused(BadTie, 0)
        need_word(deed[4])
        if type(deed[5]) is not int or deed[5] < 1:
            raise Refused(BadTie, 0)
        web["ties"][tie_spot(*deed[2:5])] = deed[5]
    elif kind == "untie":
        if not any(type(deed[4]) is str and tie_spot(*deed[2:5]) == spot for spot in web["ties"]):
            raise Refused(UnknownName, deed[4])
        del web["ties"][tie_spot(*deed[2:5])]
    elif kind == "want":
        need_word(deed[3])
        web["wants"][place] = deed[3]
    else:
        web["wants"].pop(place, None)


def plain_spots(moment):
    told = {}
    for name, web in moment.items():
        told[("web", name)] = "there"
        told.update({("place", name, place): colour for place, colour in web["places"]})
        told.update({("tie", name) + spot: width for spot, width in web["ties"].items()})
        told.update({("want", name, place): letter for place, letter in web["wants"].items()})
    return told


def ordered(spots):
    return sorted(set(spots), key=lambda spot: (KINDS[spot[0]], spot))


def plain_merge(first, second, elder):
    """The spots at which two moments clash, and the merged moment if there are none."""
    a, b, e = plain_spots(first), plain_spots(second), plain_spots(elder)
    spots = set(a) | set(b) | set(e)
    clash = [s for s in spots if a.get(s) != e.get(s) and b.get(s) != e.get(s) and a.get(s) != b.get(s)]
    if clash:
        return ordered(clash), None
    merged = {s: b.get(s) if a.get(s) == e.get(s) else a.get(s) for s in spots}
    merged = {s: value for s, value in merged.items() if value is not None}
    for s in merged:
        if s[0] == "web" and not any(t[:2] == ("place", s[1]) for t in merged):
            clash.append(s)
        if s[0] == "place" and ("web", s[1]) not in merged:
            clash.append(("web", s[1]))
        if s[0] in ("tie", "want"):
            ends = s[2:4] if s[0] == "tie" else s[2:]
            clash += [("place", s[1], end) for end in ends if ("place", s[1], end) not in merged]
    if clash:
        return ordered(clash), None
    moment = {}
    for _, name in [s for s in merged if s[0] == "web"]:
        order = []
        for side in (first, second):
            order += [place for place, _ in side.get(name, {"places": []})["places"] if place not in order]
        moment[name] = {
            "places": [[place, merged[("place", name, place)]] for place in order if ("place", name, place) in merged],
            "ties": {s[2:]: width for s, width in merged.items() if s[:2] == ("tie", name)},
            "wants": {s[2]: letter for s, letter in merged.items() if s[:2] == ("want", name)},
        }
    return [], moment


def told_moment(moment):
    """A moment as the office tells it."""
    told = []
    for name in sorted(moment):
        web = moment[name]
        made = Web([tuple(pair) for pair in web["places"]], [spot + (width,) for spot, width in web["ties"].items()])
        told.append((name, made, [(p, web["wants"][p]) for p, _ in web["places"] if p in web["wants"]]))
    return told


class Model:
    """The office. All its calls are told by names and arguments, through call."""

    def __init__(self):
        self.moments, self.entries, self.parents = [{}], [], [[]]
        self.trails, self.marks, self.place = {"main": [0]}, {"main": 0}, "main"

    def present(self):
        return self.trails[self.place][self.marks[self.place]]

    def check_room(self, moment):
        if len(moment) > 6 or len(self.moments) >= 200 or any(len(web["places"]) > 12 for web in moment.values()):
            raise Refused(TooMany)

    def put(self, moment, parents, deed):
        self.check_room(moment)
        self.entries.append((parents[0], deed))
        self.parents.append(parents)
        self.moments.append(moment)
        trail = self.trails[self.place]
        del trail[self.marks[self.place] + 1:]
        trail.append(len(self.moments) - 1)
        self.marks[self.place] = len(trail) - 1
        return self.present()

    def do(self, deed):
        return self.put(plain_deed(self.moments[self.present()], deed), [self.present()], deed)

    def undo(self):
        return self.move(-1)

    def redo(self):
        return self.move(1)

    def move(self, step):
        if not 0 <= self.marks[self.place] + step < len(self.trails[self.place]):
            raise Refused(NothingDone)
        self.marks[self.place] += step
        return self.present()

    def branch(self, name):
        if not word(name) or name in self.trails:
            raise Refused(BadName, name)
        if len(self.trails) == 6:
            raise Refused(TooMany)
        self.trails[name], self.marks[name] = [self.present()], 0

    def need_branch(self, name):
        if not found(self.trails, name):
            raise Refused(UnknownName, name)

    def go(self, name):
        self.need_branch(name)
        self.place = name
        return self.present()

    def elders(self, number):
        told = {number}
        for parent in self.parents[number]:
            told |= self.elders(parent)
        return told

    def last_common(self, one, other):
        return max(self.elders(one) & self.elders(other))

    def clashes(self, one, other):
        return plain_merge(self.moments[one], self.moments[other], self.moments[self.last_common(one, other)])

    def merge(self, name):
        self.need_branch(name)
        one, other = self.present(), self.trails[name][self.marks[name]]
        if other in self.elders(one):
            return one
        clash, moment = self.clashes(one, other)
        if clash:
            raise Refused(Clash, tuple(clash))
        return self.put(moment, [one, other], ("merge", other))

    def call(self, name, *args):
        """What a call tells, or the error as a tuple; an error changes nothing."""
        held = copy.deepcopy(vars(self))
        try:
            return ("told", getattr(self, name)(*args))
        except Refused as error:
            vars(self).update(held)
            return ("refused", error.kind) + error.told


def asked(office, name, *args):
    """The same of an office of the package."""
    try:
        return ("told", getattr(office, name)(*args))
    except (BadDeed, BadName, BadTie, Clash, NoMoment, NothingDone, TooMany, TwiceTold, UnknownName) as error:
        return ("refused", type(error)) + tuple(vars(error).values())


def all_told(office):
    """Everything that an office of the package returns, as new values."""
    return [
        [office.moment(number) for number in range(len(office))], office.now(), office.log(), office.branches(),
        [(name, office.trail(name), office.mark(name)) for name in office.branches()], office.here(), office.present(),
        len(office), office.webs(), [(name, office.web(name), office.wanted(name)) for name in office.webs()],
    ]


def all_of_model(model):
    """The same of a model."""
    now = told_moment(model.moments[model.present()])
    return [
        [told_moment(moment) for moment in model.moments], now, list(model.entries), list(model.trails),
        [(name, list(model.trails[name]), model.marks[name]) for name in model.trails], model.place, model.present(),
        len(model.moments), [name for name, _, _ in now], [tuple(part) for part in now],
    ]


def random_deed(source, moment, odd):
    """A deed for a moment of a model, most often one that can be done; odd are values for where nothing fits."""
    names = sorted(moment) + ["g", "h", "i"]
    name = source.choice(names[:len(moment)] or names) if source.random() < 0.95 else source.choice(names)
    places = [place for place, _ in moment[name]["places"]] if name in moment else []
    new = source.choice(["a", "b", "c", "d", "p2", "p10"])
    some = lambda: source.choice(places) if places and source.random() < 0.95 else new
    kind = source.choice(["k", "k", "l"])
    letter = source.choice(["x", "x", "y", "l"])
    deed = source.choice([
        ("open", source.choice(["g", "h", "i", "j", "m", "n", "o"]), new, letter), ("close", name),
        ("come", name, new, letter), ("come", name, new, letter), ("go", name, some()), ("colour", name, some(), letter),
        ("tie", name, some(), some(), kind, source.randint(1, 3)), ("tie", name, some(), some(), kind, 1),
        ("untie", name, some(), some(), kind), ("want", name, some(), letter), ("unwant", name, some()),
    ])
    if source.random() < 0.9 and name in moment and moment[name]["ties"] and deed[0] == "untie":
        deed = ("untie", name) + source.choice(sorted(moment[name]["ties"]))
    if source.random() < 0.06:
        entries = list(deed)
        entries[source.randrange(len(deed))] = source.choice(odd)
        deed = tuple(entries)
    elif source.random() < 0.02:
        deed = source.choice([list(deed), deed[:-1], deed + ("x",), deed[1:]])
    return deed


def hall():
    """The office of the interface: moments 0 to 4, 5 in the branch side, 6 in main, and 7, the two merged."""
    office = Office()
    for deed in FIRST:
        office.do(deed)
    office.branch("side")
    office.go("side")
    office.do(("colour", "g", "b", "y"))
    office.go("main")
    office.do(("come", "g", "c", "x"))
    office.merge("side")
    return office


def played(seed, steps=80):
    """An office and its model in which much was done at random."""
    source = random.Random(seed)
    office, model, odd = Office(), Model(), odd_values()
    for deed in FIRST:
        office.do(deed), model.do(deed)
    for _ in range(steps):
        name = source.choices(["do", "undo", "branch", "go", "merge"], [60, 10, 4, 12, 12])[0]
        args = ()
        if name == "do":
            args = (random_deed(source, model.moments[model.present()], odd),)
        elif name == "branch":
            args = (source.choice(["one", "two", "six"]),)
        elif name in ("go", "merge"):
            args = (source.choice(list(model.trails)),)
        model.call(name, *args)
        asked(office, name, *args)
    return office, model
