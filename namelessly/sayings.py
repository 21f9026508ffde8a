"""Sayings: what can be said of a place by counting among its neighbours."""

from namelessly.errors import BadNumber, BadSaying, UnknownName
from namelessly.helpers import is_index, is_number, is_word
from namelessly.rounds import kind_ends, summed
from namelessly.webs import need_word


def names_ascending(value, at):
    """Whether a value is a tuple of numbers of lines ahead of line number at, each greater than the one before."""
    if not isinstance(value, tuple) or not all([is_index(number, at) for number in value]):
        return False
    return all([number < behind for number, behind in zip(value, value[1:])])


def is_saying_line(value, at):
    """Whether a value has the form of line number at."""
    if not isinstance(value, tuple) or len(value) == 0 or not isinstance(value[0], str):
        return False
    form = (value[0], len(value))
    if form == ("is", 2):
        return is_word(value[1])
    if form == ("not", 2):
        return is_index(value[1], at)
    if form == ("all", 2):
        return names_ascending(value[1], at)
    if form == ("some", 4):
        return is_number(value[1], 1) and is_word(value[2]) and is_index(value[3], at)
    return False


def named_by(line):
    """The numbers of the lines that a line names."""
    if line[0] == "all":
        return list(line[1])
    if line[0] == "is":
        return []
    return [line[-1]]


def wrong_saying_line(value):
    """The number of the first wrong line of a value, None if it is a saying."""
    if not isinstance(value, tuple) or len(value) == 0:
        return 0
    named = {}
    for at, line in enumerate(value):
        if not is_saying_line(line, at):
            return at
        for number in named_by(line):
            named[number] = True
    for at in range(len(value) - 1):
        if at not in named:
            return at
    return None


def need_saying(value):
    """Raises BadSaying for the first wrong line of a value that is no saying."""
    line = wrong_saying_line(value)
    if line is not None:
        raise BadSaying(line)


def depths(saying):
    """The depths of the lines."""
    found = []
    for line in saying:
        deepest = max([found[number] for number in named_by(line)], default=0)
        found.append(deepest + 1 if line[0] == "some" else deepest)
    return found


def depth(saying):
    """How often a saying goes on to neighbours, one within another."""
    need_saying(saying)
    return depths(saying)[-1]


def truth_of_line(web, ends, rows, line):
    """Place by place whether a line holds, from the rows of the earlier ones."""
    if line[0] == "is":
        return [web.colour(name) == line[1] for name in web.places()]
    if line[0] == "not":
        return [not truth for truth in rows[line[1]]]
    if line[0] == "all":
        return [all([rows[number][at] for number in line[1]]) for at in range(len(web))]
    _, least, kind, number = line
    if kind not in ends:
        return [False] * len(web)
    return [total >= least for total in summed(ends[kind], rows[number])]


def truths(web, saying):
    """Place by place whether a saying holds."""
    ends = kind_ends(web)
    rows = []
    for line in saying:
        rows.append(truth_of_line(web, ends, rows, line))
    return rows[-1]


def holds_at(web, saying):
    """The list of the places at which a saying holds."""
    need_saying(saying)
    return [name for name, truth in zip(web.places(), truths(web, saying)) if truth]


def said_at(web, name, saying):
    """Whether a saying holds at a place."""
    if name not in web:
        raise UnknownName(name)
    need_saying(saying)
    return truths(web, saying)[web.places().index(name)]


def led_line(line, numbers):
    """A line that names other numbers instead, as a dict tells them."""
    if line[0] == "is":
        return line
    if line[0] == "all":
        return ("all", tuple(sorted({numbers[number] for number in line[1]})))
    return line[:-1] + (numbers[line[-1]],)


class Lines:
    """The lines of sayings that are being made, each once."""

    def __init__(self):
        self._lines = []
        self._number_of = {}

    def line_number(self, line):
        """The number of a line, which is put behind the others if it is a new one."""
        if line not in self._number_of:
            self._number_of[line] = len(self._lines)
            self._lines.append(line)
        return self._number_of[line]

    def last_number(self, saying):
        """The number of the last line of a saying, all of whose lines are put in."""
        numbers = {}
        for at, line in enumerate(saying):
            numbers[at] = self.line_number(led_line(line, numbers))
        return numbers[len(saying) - 1]

    def saying(self, number):
        """The saying whose last line is this one, of the lines that it needs."""
        needed = {number: True}
        for at in reversed(range(number + 1)):
            if at in needed:
                for also in named_by(self._lines[at]):
                    needed[also] = True
        numbers = {}
        found = []
        for at in sorted(needed):
            numbers[at] = len(found)
            found.append(led_line(self._lines[at], numbers))
        return tuple(found)


def tidied(saying):
    """A saying that holds where this one does, without two equal lines."""
    need_saying(saying)
    lines = Lines()
    return lines.saying(lines.last_number(saying))


def denied(saying):
    """A saying that holds where this one does not."""
    need_saying(saying)
    lines = Lines()
    return lines.saying(lines.line_number(("not", lines.last_number(saying))))


def all_of(sayings):
    """A saying that holds where each of these does."""
    for saying in sayings:
        need_saying(saying)
    lines = Lines()
    numbers = {lines.last_number(saying): True for saying in sayings}
    return lines.saying(lines.line_number(("all", tuple(sorted(numbers)))))


def either_of(sayings):
    """A saying that holds where at least one of these does."""
    for saying in sayings:
        need_saying(saying)
    return denied(all_of([denied(saying) for saying in sayings]))


def some_of(n, kind, saying):
    """A saying that holds where at least so much width of this kind leads to places at which this one holds."""
    if not is_number(n, 1):
        raise BadNumber(n)
    need_word(kind)
    need_saying(saying)
    lines = Lines()
    return lines.saying(lines.line_number(("some", n, kind, lines.last_number(saying))))
