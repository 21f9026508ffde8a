"""What several test files use."""

import copy
import random

from namelessly.webs import Web, beside, copies

# Values that stand where something else is asked for; none of them is a word, a place or a tie.
ODD_VALUES = [
    True, False, None, 0, 1, -1, 10 ** 39, "", " ", "A", "aB", "a b", "a-b", "1", "1a", "a1b", "a\n", "a1\n", "\na",
    "a\t", "abcdefghi", "abcdefghi1", "a12345", "abcdefgh12345", "~", [], ["a"], ["a", ["b"]], (), ("a",),
    ("a", "b"), ("a", ["b", {"c": [1]}]), {}, {"a": "b"}, {"a": ["b"]}, {(1, "x"): [[]]}, [[[{"k": ([],)}]]],
]

WORDS = ["a", "z", "abcdefgh", "a0", "a1234", "abcdefgh0000", "p10", "place", "tie", "none"]


def odd_values():
    """New ones each time, so that a test may change them."""
    return copy.deepcopy(ODD_VALUES) + [Web([("a", "x")], [])]


def strict(value):
    """A text that two values share only if they are equal and of one kind throughout."""
    if isinstance(value, dict):
        return "{" + ",".join(sorted(strict(k) + ":" + strict(v) for k, v in value.items())) + "}"
    if isinstance(value, (list, tuple)):
        return type(value).__name__ + "(" + ",".join(strict(part) for part in value) + ")"
    if isinstance(value, Web):
        return "Web" + strict([[(p, value.colour(p)) for p in value.places()], value.ties()])
    return type(value).__name__ + ":" + repr(value)


def containers(value):
    """All lists and dicts within a value, the value itself included."""
    found = [value] if isinstance(value, (list, dict)) else []
    parts = value.values() if isinstance(value, dict) else value if isinstance(value, (list, tuple)) else []
    for part in parts:
        found.extend(containers(part))
    return found


class Checks:
    """Mixed into a TestCase."""

    def same(self, got, wanted):
        self.assertEqual(strict(got), strict(wanted))

    def refuses(self, kind, value, call, *args, **more):
        """The call raises just this error, with this value as its only attribute, of which it keeps no list."""
        before = strict(args)
        handed = [id(part) for part in containers(args)] + [id(part) for part in containers(more)]
        with self.assertRaises(kind) as caught:
            call(*args, **more)
        error = caught.exception
        self.assertIs(type(error), kind)
        self.assertEqual(strict(args), before)
        self.assertEqual(strict(list(vars(error).values())), strict([value]))
        for part in containers(list(vars(error).values())) + containers(error.args):
            self.assertNotIn(id(part), handed)

    def fresh(self, call, *args, **more):
        """The call changes no argument, and tells lists and dicts that are new and all unlike; returns the result."""
        before = strict(args)
        handed = [id(part) for part in containers(args)] + [id(part) for part in containers(more)]
        first = call(*args, **more)
        told = strict(first)
        self.assertEqual(strict(args), before)
        second = call(*args, **more)
        self.assertEqual(strict(second), told)
        found = [id(part) for part in containers(first)] + [id(part) for part in containers(second)]
        self.assertEqual(len(found), len(set(found)))
        self.assertFalse(set(found) & set(handed))
        for part in containers(first):
            part.clear()
        self.assertEqual(strict(args), before)
        self.assertEqual(strict(call(*args, **more)), told)
        return second


def path(many, colour="x", kind="k", width=1):
    """A row of places a, b, .., each tied to the next one."""
    names = "abcdefghij"[:many]
    return Web([(name, colour) for name in names], [(p, q, kind, width) for p, q in zip(names, names[1:])])


def ring(many, colour="x", kind="k", width=1):
    """A row of at least three places whose last one is tied to the first one."""
    names = "abcdefghij"[:many]
    ties = [(p, q, kind, width) for p, q in zip(names, names[1:])] + [(names[-1], names[0], kind, width)]
    return Web([(name, colour) for name in names], ties)


def random_web(source, most=5, colours="xyz", kinds=("k", "l"), widest=2):
    """A web as callers make up, from a random source with a told seed."""
    names = source.sample(["a", "b", "c", "d", "e", "p0", "p10", "p2"], source.randint(1, most))
    palette = colours[:source.randint(1, len(colours))]
    density = source.choice([0.2, 0.4, 0.7])
    ties = []
    for at, one in enumerate(names):
        for other in names[at + 1:]:
            for kind in kinds:
                if source.random() < density:
                    ends = source.choice([(one, other), (other, one)])
                    ties.append(ends + (kind, source.randint(1, widest)))
    source.shuffle(ties)
    return Web([(name, source.choice(palette)) for name in names], ties)


def random_webs(seed, many, **more):
    source = random.Random(seed)
    return [random_web(source, **more) for _ in range(many)]


def plain_rounds(webs, k):
    """Rounds 0 to k of a list of webs, word by word as point 2.1 tells them."""
    colours = sorted({web.colour(p) for web in webs for p in web.places()})
    kinds = sorted({tie[2] for web in webs for tie in web.ties()})
    told = [[[colours.index(web.colour(p)) for p in web.places()] for web in webs]]
    for _ in range(k):
        last = told[-1]
        classes = sorted({number for numbers in last for number in numbers})
        keys = []
        for web, numbers in zip(webs, last):
            class_of = dict(zip(web.places(), numbers))
            keys.append([
                (class_of[p], tuple(sum(web.width(p, r, kind) for r in web.places() if class_of[r] == number)
                                    for kind in kinds for number in classes))
                for p in web.places()
            ])
        order = sorted({key for row in keys for key in row})
        told.append([[order.index(key) for key in row] for row in keys])
    return told


def count(colouring):
    """How many classes a colouring of a list of webs has."""
    return len({number for numbers in colouring for number in numbers})


def plain_settling(webs):
    told = plain_rounds(webs, sum(len(web) for web in webs))
    return next(k for k in range(len(told)) if count(told[k]) == count(told[k + 1]))


def turned(web, many, turns):
    """A web over this one, many over each place, and the folding: the copies of each tie are turned."""
    places = web.places()
    names = {(p, u): f"p{places.index(p) * many + u}" for p in places for u in range(many)}
    ties = [(names[(p, u)], names[(q, (u + turn) % many)], kind, width)
            for (p, q, kind, width), turn in zip(web.ties(), turns) for u in range(many)]
    over = Web([(names[spot], web.colour(spot[0])) for spot in names], ties)
    return over, {name: spot[0] for spot, name in names.items()}


def plain_fault(over, web, value):
    """What judge_folding tells of a dict of strings to strings, word by word as point 3.1 does."""
    for name in over.places():
        if name not in value:
            return ("missing", name)
    for key in sorted(value):
        if key not in over.places():
            return ("strange", key)
    for name in over.places():
        if value[name] not in web.places():
            return ("unknown", name)
    for name in over.places():
        if over.colour(name) != web.colour(value[name]):
            return ("colour", name)
    for name in over.places():
        for place in web.places():
            for kind in sorted(set(over.kinds()) | set(web.kinds())):
                come = sum(over.width(name, end, kind) for end in over.places() if value[end] == place)
                if come != web.width(place, value[name], kind):
                    return ("width", name, place, kind)
    return None


def shuffled(source, web):
    """The web with its places in another order, and with other names."""
    places = web.places()
    source.shuffle(places)
    new = dict(zip(places, source.sample(["a", "b", "c", "d", "e", "f", "g", "h", "p0", "p10", "p2", "z"], len(places))))
    return Web([(new[name], web.colour(name)) for name in places],
               [(new[one], new[other], kind, width) for one, other, kind, width in web.ties()])


def kin_pairs(seed, many, most=8):
    """Pairs of kin webs of at most so many places each, of several kinds, widths, colours and components."""
    source = random.Random(seed)
    both, _ = beside([ring(3), path(2, width=2)])
    pairs = [
        (path(2, width=2), ring(3)), (ring(3), ring(4)), (both, ring(4)), (both, both), (ring(6), beside([ring(3)] * 2)[0]),
        (path(1), Web([("a", "x"), ("b", "x")], [])), (path(4), copies(path(4), 2)[0]), (path(3), path(3)),
        (Web([("b", "y"), ("a", "x")], []), Web([("c", "x"), ("d", "y"), ("e", "x"), ("f", "y")], [])),
    ]
    while len(pairs) < many:
        web = random_web(source, most=source.choice([2, 3, 4, most]), widest=source.choice([1, 2, 5]))
        sides = [source.randint(1, max(1, most // len(web))) for _ in range(2)]
        made = [turned(web, copied, [source.randint(0, 3) for _ in web.ties()])[0] for copied in sides]
        if max(len(side) for side in made) <= most:
            pairs.append((shuffled(source, made[0]), shuffled(source, made[1])))
    return pairs


def webs_that_are_not_kin(seed, many, most=8):
    """Pairs of webs, some of them parted late only."""
    webs = random_webs(seed, many, most=most, colours="x", kinds=("k",)) + random_webs(seed + 1, many, most=most)
    pairs = list(zip(webs, webs[1:])) + [
        (beside([path(4), ring(4)])[0], beside([ring(3), path(5)])[0]), (path(3), path(4)), (path(2), path(2, width=2)),
        (path(2), path(2, kind="j")), (path(1), path(1, colour="y")), (path(4), path(5)), (ring(5), path(5)),
    ]
    return [(one, other) for one, other in pairs if not plain_kin(one, other, 16)]


def plain_shares(one, other, k):
    first, last = plain_rounds([one, other], k)[k]
    return [(first.count(number), last.count(number)) for number in range(max(first + last) + 1)]


def plain_kin(one, other, k):
    return all(n * len(other) == m * len(one) for n, m in plain_shares(one, other, k))


def expanded(tree):
    """The root of a tree: a knot is a tuple (colour, ascending tuple of (kind, knot), each as often as it is there)."""
    made = []
    for colour, parts in tree:
        made.append((colour, tuple(sorted((kind, made[number]) for kind, number, times in parts for _ in range(times)))))
    return made[-1]


def count_knots(knot):
    return 1 + sum(count_knots(below) for _, below in knot[1])


def measure(knot):
    """The height of a knot."""
    return max([measure(below) + 1 for _, below in knot[1]], default=0)


def plain_lays(web, place, knot):
    """How often the tree of a knot lays at a place, word by word as point 6.4 tells it."""
    if web.colour(place) != knot[0]:
        return 0
    often = 1
    for kind, below in knot[1]:
        often *= sum(web.width(place, r, kind) * plain_lays(web, r, below) for r in web.places()
                     if web.width(place, r, kind))
    return often


def plain_lines_of(knot):
    """The plain form of the tree of a knot, word by word as point 6.3 tells it."""
    waiting, found = [knot], []
    while waiting:
        one = waiting.pop()
        if one not in found:
            found.append(one)
            waiting.extend(below for _, below in one[1])
    lines, number_of = [], {}
    for high in range(measure(knot) + 1):
        made = []
        for one in found:
            if measure(one) == high:
                spots = sorted((kind, number_of[below]) for kind, below in one[1])
                made.append(((one[0], tuple(spot + (spots.count(spot),) for spot in sorted(set(spots)))), one))
        for line, one in sorted(made):
            number_of[one] = len(lines)
            lines.append(line)
    return tuple(lines)


def random_tree(source, most_lines=6, most_knots=14, colours="xyz", kinds=("k", "l"), most_times=3):
    """A tree as callers make up, seldom in plain form."""
    while True:
        lines, many = [], []
        for at in range(source.randint(1, most_lines)):
            spots = [(kind, number) for kind in kinds for number in range(at) if source.random() < 0.5]
            parts = tuple((kind, number, source.randint(1, most_times)) for kind, number in spots)
            lines.append((source.choice(colours), parts))
            many.append(1 + sum(times * many[number] for _, number, times in parts))
        used = {number for _, parts in lines for _, number, _ in parts}
        if len(used) == len(lines) - 1 and many[-1] <= most_knots:
            return tuple(lines)


def plain_truth(web, saying, place, at=-1):
    """Whether a line of a saying holds at a place, word by word as point 7.2 tells it."""
    line = saying[at]
    if line[0] == "is":
        return web.colour(place) == line[1]
    if line[0] == "not":
        return not plain_truth(web, saying, place, line[1])
    if line[0] == "all":
        return all(plain_truth(web, saying, place, number) for number in line[1])
    return line[1] <= sum(web.width(place, r, line[2]) for r in web.places()
                          if web.width(place, r, line[2]) and plain_truth(web, saying, r, line[3]))


def plain_depth(saying, at=-1):
    line = saying[at]
    if line[0] == "is":
        return 0
    if line[0] == "all":
        return max([plain_depth(saying, number) for number in line[1]], default=0)
    return plain_depth(saying, line[-1]) + (1 if line[0] == "some" else 0)


def random_saying(source, most=8, colours="xyz", kinds=("k", "l"), widest=3):
    """A saying as callers make up."""
    while True:
        lines = []
        for at in range(source.randint(1, most)):
            form = source.choice(["is", "not", "all", "some", "some"]) if at else source.choice(["is", "is", "all"])
            if form == "is":
                lines.append(("is", source.choice(colours)))
            elif form == "not":
                lines.append(("not", source.randrange(at)))
            elif form == "all":
                lines.append(("all", tuple(number for number in range(at) if source.random() < 0.5)))
            else:
                lines.append(("some", source.randint(1, widest), source.choice(kinds), source.randrange(at)))
        named = set()
        for line in lines:
            named |= set(line[1]) if line[0] == "all" else set() if line[0] == "is" else {line[-1]}
        if named | {len(lines) - 1} == set(range(len(lines))):
            return tuple(lines)


def plain_heard(web, letters, place):
    """What a place hears, word by word as point 8.1 tells it; letters is a dict from places to letters."""
    heard = []
    for kind in sorted({tie[2] for tie in web.ties()}):
        for letter in sorted(set(letters.values())):
            total = sum(web.width(place, r, kind) for r in web.places() if letters[r] == letter)
            if total > 0:
                heard.append((kind, letter, total))
    return tuple(heard)


def plain_run(web, machine):
    """The lists of the letters of the places, round by round, word by word as point 8.1 tells them."""
    told = [[web.colour(p) for p in web.places()]]
    for rules in machine:
        letters = dict(zip(web.places(), told[-1]))
        row = []
        for p in web.places():
            new = [rule[2] for rule in rules if rule[:2] == (letters[p], plain_heard(web, letters, p))]
            row.append(new[0] if new else "")
        told.append(row)
    return told


def random_machine(source, webs, many, letters=("", "a", "b", "c"), kept=0.8):
    """A machine of many rounds for these webs; some of what their places hear has no rule, some rules are for nothing."""
    machine = []
    for _ in range(many):
        spots = set()
        for web in webs:
            row = dict(zip(web.places(), plain_run(web, machine)[-1]))
            spots |= {(row[p], plain_heard(web, row, p)) for p in web.places() if source.random() < kept}
        if source.random() < 0.5:
            spots.add((source.choice(letters), (("k", "", 1), ("k", "a", 2), ("l", "", source.randint(1, 20)))))
        rules = [spot + (source.choice(letters),) for spot in sorted(spots)]
        source.shuffle(rules)
        machine.append(tuple(rules))
    return tuple(machine)


def parted(row):
    """Which places of a row have something in common: the list of the sets of the numbers of the places."""
    return sorted(sorted(at for at, part in enumerate(row) if part == one) for one in set(row))
