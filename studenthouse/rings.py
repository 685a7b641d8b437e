"""Rings: of each student who's next to them, where oneself stands for being alone."""

from studenthouse.pairings import it_holds
from studenthouse.wishes import MOST_STUDENTS


def rings_told(wishes):
    """The first rings that hold. In every house some do.

    That no two would rather have each other than who's before them is what
    makes a pairing hold, asked of those who are before.
    """
    holding = [nexts for nexts in every_rings(wishes) if it_holds(wishes, who_is_before(nexts))]
    return holding[0]


def every_rings(wishes):
    """All rings, in order, in which each one suits who's next and who's before them."""
    found = [()]
    for student in range(wishes.number):
        further = []
        for nexts in found:
            further.extend([nexts + (other,) for other in range(wishes.number) if suits(wishes, nexts, other)])
        found = further
    return found


def suits(wishes, nexts, other):
    """Whether the other one can be next to the first student of whom that isn't settled yet.

    Of each student it is seen to, as soon as both are known, that they would
    rather have who's next than who's before them.
    """
    student = len(nexts)
    if other in nexts:
        return False
    if other == student:
        return True
    if not wishes.share(student, other):
        return False
    if other < student and wishes.rather(other, student, nexts[other]):
        return False
    return student not in nexts or not wishes.rather(student, nexts.index(student), other)


def who_is_before(nexts):
    """Of each student who's before them."""
    before = list(nexts)
    for student, other in enumerate(nexts):
        before[other] = student
    return before


def ring_from(nexts, student):
    """The students of one ring, from this one on."""
    ring = [student]
    other = nexts[student]
    while other != student:
        ring.append(other)
        other = nexts[other]
    return ring


def count_odd(nexts):
    """How many rings are of three, or five; each is counted at its least student."""
    rings = [ring_from(nexts, student) for student in range(len(nexts))]
    return len([ring for ring in rings if ring[0] == min(ring) and len(ring) in (3, 5)])


def told_rings(nexts):
    """Six numbers: who's next to each, and 1, or 0 for who isn't there."""
    return [other + 1 for other in nexts] + [0] * (MOST_STUDENTS - len(nexts))
