"""Places that are alike, webs that are kin, and the least rounds that part them."""

from namelessly.errors import UnknownName
from namelessly.rounds import class_rows


def two_spots(one, p, other, q):
    """Where p and q stand in the row of the places of one and then of other."""
    if p not in one:
        raise UnknownName(p)
    if q not in other:
        raise UnknownName(q)
    return (one.places().index(p), len(one) + other.places().index(q))


def alike(one, p, other, q, k):
    """Whether p of one and q of other are alike to k; at all, if k is None."""
    first, last = two_spots(one, p, other, q)
    classes = class_rows([one, other], k)[-1]
    return classes[first] == classes[last]


def apart_at(one, p, other, q):
    """The least k to which p of one and q of other are not alike, None if they are alike."""
    first, last = two_spots(one, p, other, q)
    for k, classes in enumerate(class_rows([one, other], None)):
        if classes[first] != classes[last]:
            return k
    return None


def class_shares(one, classes):
    """For each class the tuple of the numbers of its places in one and in the other web behind it."""
    many = [[0, 0] for _ in range(len(set(classes)))]
    for at, number in enumerate(classes):
        side = 0 if at < len(one) else 1
        many[number][side] += 1
    return [(first, last) for first, last in many]


def in_proportion(one, other, classes):
    """Whether each class has the same share of the places of both webs."""
    return all([first * len(other) == last * len(one) for first, last in class_shares(one, classes)])


def kin(one, other, k):
    """Whether two webs are kin to k; at all, if k is None."""
    return in_proportion(one, other, class_rows([one, other], k)[-1])


def separating_round(one, other):
    """The least k to which two webs are not kin, None if they are kin."""
    for k, classes in enumerate(class_rows([one, other], None)):
        if not in_proportion(one, other, classes):
            return k
    return None


def shares(one, other, k):
    """The list of the tuples (n, m) of the numbers of places of one and of other, class by class of round k."""
    return class_shares(one, class_rows([one, other], k)[-1])
