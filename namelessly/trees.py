"""Trees of knots, written as lines, and how often they lay at the places of a web."""

from namelessly.errors import BadNumber, BadTree, TooMany, UnknownName
from namelessly.helpers import is_index, is_number, is_word
from namelessly.rounds import kind_ends, summed
from namelessly.webs import need_word

MOST_KNOTS = 200


def is_part(value, at):
    """Whether a value is a part that line number at may have."""
    if not isinstance(value, tuple) or len(value) != 3:
        return False
    kind, number, times = value
    return is_word(kind) and is_index(number, at) and is_number(times, 1)


def is_tree_line(value, at):
    """Whether a value has the form of line number at."""
    if not isinstance(value, tuple) or len(value) != 2:
        return False
    colour, parts = value
    if not is_word(colour) or not isinstance(parts, tuple) or not all([is_part(part, at) for part in parts]):
        return False
    spots = [(kind, number) for kind, number, _ in parts]
    return all([spot < behind for spot, behind in zip(spots, spots[1:])])


def wrong_tree_line(value):
    """The number of the first wrong line of a value, None if it is a tree."""
    if not isinstance(value, tuple) or len(value) == 0:
        return 0
    many = []
    used = {}
    for at, line in enumerate(value):
        if not is_tree_line(line, at):
            return at
        many.append(1 + sum([times * many[number] for _, number, times in line[1]]))
        if many[at] > MOST_KNOTS:
            return at
        for _, number, _ in line[1]:
            used[number] = True
    for at in range(len(value) - 1):
        if at not in used:
            return at
    return None


def need_tree(value):
    """Raises BadTree for the first wrong line of a value that is no tree."""
    line = wrong_tree_line(value)
    if line is not None:
        raise BadTree(line)


def knots(tree):
    """The number of knots."""
    need_tree(tree)
    many = []
    for _, parts in tree:
        many.append(1 + sum([times * many[number] for _, number, times in parts]))
    return many[-1]


def heights(lines):
    """The heights of the subtrees for which lines stand."""
    found = []
    for _, parts in lines:
        found.append(max([found[number] + 1 for _, number, _ in parts], default=0))
    return found


def height(tree):
    """The number of ties on the longest way down from the root."""
    need_tree(tree)
    return heights(tree)[-1]


def below_last(lines):
    """The numbers of the lines of which the last one is made, itself among them, as keys of a dict."""
    found = {len(lines) - 1: True}
    for at in reversed(range(len(lines))):
        if at in found:
            for _, number, _ in lines[at][1]:
                found[number] = True
    return found


def merged_line(line, numbers):
    """A line whose parts have other numbers, as a dict tells them; those of one kind and number are one part."""
    colour, parts = line
    all_times = {}
    for kind, number, times in parts:
        spot = (kind, numbers[number])
        all_times[spot] = all_times.get(spot, 0) + times
    return (colour, tuple([spot + (all_times[spot],) for spot in sorted(all_times)]))


def plain_lines(lines):
    """The plain form of the tree of the last line; there may be unused lines, and parts in any sequence."""
    found = heights(lines)
    needed = sorted(below_last(lines))
    plain = []
    numbers = {}
    for high in range(found[-1] + 1):
        merged = {at: merged_line(lines[at], numbers) for at in needed if found[at] == high}
        ordered = sorted(set(list(merged.values())))
        spots = {line: len(plain) + at for at, line in enumerate(ordered)}
        plain.extend(ordered)
        for at, line in merged.items():
            numbers[at] = spots[line]
    return tuple(plain)


def plain_tree(tree):
    """The plain form of a tree."""
    need_tree(tree)
    return plain_lines(tree)


def lay_rows(web, tree):
    """Line by line the list, place by place, of how often the line lays there."""
    colours = [web.colour(name) for name in web.places()]
    ends = kind_ends(web)
    rows = []
    for colour, parts in tree:
        row = [1 if mine == colour else 0 for mine in colours]
        for kind, number, times in parts:
            sums = summed(ends[kind], rows[number]) if kind in ends else [0] * len(web)
            for _ in range(times):
                row = [often * total for often, total in zip(row, sums)]
        rows.append(row)
    return rows


def lays(web, place, tree):
    """How often a tree lays at a place."""
    if place not in web:
        raise UnknownName(place)
    need_tree(tree)
    return lay_rows(web, tree)[-1][web.places().index(place)]


def lays_into(web, tree):
    """How often a tree lays at all places of a web together."""
    need_tree(tree)
    return sum(lay_rows(web, tree)[-1])


def moved_parts(parts, ahead):
    """Parts whose lines stand behind so many further ones."""
    return tuple([(kind, number + ahead, times) for kind, number, times in parts])


def put_together(one, other):
    """The tree whose root has the parts of both roots; None if the roots have different colours."""
    need_tree(one)
    need_tree(other)
    if one[-1][0] != other[-1][0]:
        return None
    if knots(one) + knots(other) - 1 > MOST_KNOTS:
        raise TooMany()
    lines = list(one) + [(colour, moved_parts(parts, len(one))) for colour, parts in other]
    lines.append((one[-1][0], one[-1][1] + lines[-1][1]))
    return plain_lines(lines)


def planted(colour, kind, tree):
    """The tree whose root has this colour and, by this kind, a tree once below it."""
    for name in (colour, kind):
        need_word(name)
    need_tree(tree)
    if knots(tree) + 1 > MOST_KNOTS:
        raise TooMany()
    return plain_lines(list(tree) + [(colour, ((kind, len(tree) - 1, 1),))])


def depths_of_lines(tree, high):
    """For each line the dict with its steps from the root as keys, as far as they are at most high."""
    depths = [{} for _ in tree]
    depths[-1][0] = True
    for at in reversed(range(len(tree))):
        for steps in list(depths[at]):
            if steps < high:
                for _, number, _ in tree[at][1]:
                    depths[number][steps + 1] = True
    return depths


def cut_tree(tree, high):
    """The tree of the knots that are at most high steps away from the root."""
    need_tree(tree)
    if not is_number(high, 0):
        raise BadNumber(high)
    lines = []
    spots = {}
    for at, depths in enumerate(depths_of_lines(tree, high)):
        colour, parts = tree[at]
        for steps in depths:
            kept = parts if steps < high else ()
            spots[(at, steps)] = len(lines)
            lines.append((colour, tuple([(kind, spots[(number, steps + 1)], times) for kind, number, times in kept])))
    return plain_lines(lines)
