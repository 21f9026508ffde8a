"""How the moments of an office hang together, and attempts."""

from namelessly.merging import clash_spots, elders_in, last_common_in
from namelessly.office import need_moments


def elders(office, number):
    """The ascending list of the elders of a moment."""
    need_moments(office, [number])
    return elders_in(office.log(), number)


def come_of(office, number):
    """The ascending list of the moments that have a moment among their elders."""
    need_moments(office, [number])
    log = office.log()
    return [other for other in range(len(office)) if number in elders_in(log, other)]


def last_common(office, one, other):
    """The number of the last common moment of two."""
    need_moments(office, [one, other])
    return last_common_in(office.log(), one, other)


def line_to(office, number):
    """The list of the deeds that lead to a moment along the first numbers of the log."""
    need_moments(office, [number])
    log = office.log()
    deeds = []
    while number > 0:
        number, deed = log[number - 1]
        deeds.append(deed)
    return deeds[::-1]


def clashes(office, one, other):
    """The list of the spots at which two moments clash."""
    elder = last_common(office, one, other)
    moments = office.book.moments
    return clash_spots(moments[one], moments[other], moments[elder])


def attempt(office, action):
    """Calls action with the office and returns what it returns; if it fails, the office is as it was."""
    # A book never changes, so the one that is held brings all back. What action leaves is held only if it ends well;
    # with no handler, whatever it raises goes on.
    held = office.book
    try:
        told = action(office)
        held = office.book
    finally:
        office.book = held
    return told


def tried(office, deeds):
    """Does all deeds of a list, or none; the list of the numbers of their moments."""
    def all_deeds(same):
        return [same.do(deed) for deed in deeds]
    return attempt(office, all_deeds)
