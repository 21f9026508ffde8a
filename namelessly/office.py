"""The office: webs and wanted letters that come and go, with all moments, branches and merges."""

from namelessly.deeds import after, need_room, web_there
from namelessly.errors import BadName, Clash, NoMoment, NothingDone, TooMany, UnknownName
from namelessly.helpers import is_index, is_word
from namelessly.merging import clash_spots, elders_in, last_common_in, merged_moment

MOST_BRANCHES = 6


class Book:
    """All that an office knows.

    A book is never changed, and neither is what it holds: an office takes another one instead. So an earlier book
    tells what was, whatever happened since.
    """

    def __init__(self, moments, entries, trails, marks, standing):
        self.moments = moments
        self.entries = entries
        self.trails = trails
        self.marks = marks
        self.standing = standing

    def present_number(self):
        """The number of the present moment."""
        return self.trails[self.standing][self.marks[self.standing]]

    def with_moment(self, moment, deed):
        """The book in which one more moment came of the present one."""
        trails = dict(self.trails)
        marks = dict(self.marks)
        marks[self.standing] = self.marks[self.standing] + 1
        trails[self.standing] = self.trails[self.standing][:marks[self.standing]] + [len(self.moments)]
        entries = self.entries + [(self.present_number(), deed)]
        return Book(self.moments + [moment], entries, trails, marks, self.standing)

    def with_mark(self, index):
        """The book in which the mark of the branch in which the office stands is elsewhere."""
        marks = dict(self.marks)
        marks[self.standing] = index
        return Book(self.moments, self.entries, self.trails, marks, self.standing)

    def with_branch(self, name):
        """The book with one more branch, at the present moment."""
        trails = dict(self.trails)
        marks = dict(self.marks)
        trails[name] = [self.present_number()]
        marks[name] = 0
        return Book(self.moments, self.entries, trails, marks, self.standing)

    def standing_in(self, name):
        """The book in which the office stands in this branch."""
        return Book(self.moments, self.entries, self.trails, self.marks, name)


def need_moments(office, numbers):
    """Raises NoMoment for the first of these values that is not the number of a moment."""
    for number in numbers:
        if not is_index(number, len(office)):
            raise NoMoment(number)


def wanted_pairs(web, wanted):
    """The list of the pairs (place, letter) of wanted letters, in the order of the places."""
    return [(place, wanted[place]) for place in web.places() if place in wanted]


class Office:
    """Webs with wanted letters, and all moments of them."""

    def __init__(self):
        self.book = Book([{}], [], {"main": [0]}, {"main": 0}, "main")

    def do(self, deed):
        """Does a deed; the number of the new moment."""
        moment = after(self._moment_now(), deed)
        need_room(moment, len(self.book.moments))
        self.book = self.book.with_moment(moment, deed)
        return self.present()

    def undo(self):
        """Moves the mark one back; the number of the moment there."""
        index = self.mark(self.here())
        if index == 0:
            raise NothingDone()
        self.book = self.book.with_mark(index - 1)
        return self.present()

    def redo(self):
        """Moves the mark one forward; the number of the moment there."""
        index = self.mark(self.here()) + 1
        if index == len(self.trail(self.here())):
            raise NothingDone()
        self.book = self.book.with_mark(index)
        return self.present()

    def web(self, name):
        """The web of this name at the present moment."""
        return web_there(self._moment_now(), name)[0]

    def wanted(self, name):
        """The list of the pairs (place, letter) of a web at the present moment."""
        web, wanted = web_there(self._moment_now(), name)
        return wanted_pairs(web, wanted)

    def webs(self):
        """The ascending list of the names of the webs at the present moment."""
        return sorted(self._moment_now())

    def moment(self, number):
        """The list of the tuples (name, web, wanted) of a moment, by name."""
        need_moments(self, [number])
        moment = self.book.moments[number]
        return [(name, moment[name][0], wanted_pairs(moment[name][0], moment[name][1])) for name in sorted(moment)]

    def now(self):
        """The same for the present moment."""
        return self.moment(self.present())

    def present(self):
        """The number of the present moment."""
        return self.book.present_number()

    def log(self):
        """The list of the pairs (first, deed), for each moment from 1 on."""
        return list(self.book.entries)

    def branch(self, name):
        """Makes a branch at the present moment."""
        if not is_word(name) or name in self.book.trails:
            raise BadName(name)
        if len(self.book.trails) >= MOST_BRANCHES:
            raise TooMany()
        self.book = self.book.with_branch(name)

    def go(self, name):
        """Goes to a branch; the number of the moment that is then present."""
        self._need_branch(name)
        self.book = self.book.standing_in(name)
        return self.present()

    def here(self):
        """The name of the branch in which the office stands."""
        return self.book.standing

    def branches(self):
        """The list of the names of the branches, as they were made."""
        return list(self.book.trails)

    def trail(self, name):
        """The trail of a branch."""
        self._need_branch(name)
        return list(self.book.trails[name])

    def mark(self, name):
        """The mark of a branch."""
        self._need_branch(name)
        return self.book.marks[name]

    def merge(self, name):
        """Merges a branch into the present one; the number of the moment that is then present."""
        second = self.trail(name)[self.mark(name)]
        if second not in elders_in(self.book.entries, self.present()):
            moment = self._merged_with(second)
            need_room(moment, len(self.book.moments))
            self.book = self.book.with_moment(moment, ("merge", second))
        return self.present()

    def twin(self):
        """An equal office that goes its own way."""
        other = Office()
        other.book = self.book
        return other

    def _moment_now(self):
        return self.book.moments[self.present()]

    def _need_branch(self, name):
        if not isinstance(name, str) or name not in self.book.trails:
            raise UnknownName(name)

    def _merged_with(self, second):
        """The moment that the present one and another one become."""
        first = self._moment_now()
        last = self.book.moments[second]
        elder = self.book.moments[last_common_in(self.book.entries, self.present(), second)]
        spots = clash_spots(first, last, elder)
        if spots:
            raise Clash(tuple(spots))
        return merged_moment(first, last, elder)

    def __len__(self):
        return len(self.book.moments)

    def __eq__(self, other):
        if not isinstance(other, Office):
            return False
        if self.book.entries != other.book.entries or self.book.standing != other.book.standing:
            return False
        # The branches count in the order in which they were made.
        return list(self.book.trails.items()) == list(other.book.trails.items()) and self.book.marks == other.book.marks
