"""Pairings: of each student whom they have, where oneself stands for being alone.

A pairing is a tuple, so that it can be kept and handed on without a copy.
"""

from studenthouse.wishes import MOST_STUDENTS


def all_alone(number):
    """The pairing of so many students in which nobody is paired."""
    return tuple(range(number))


def is_alone(has, student):
    """Whether the student is alone in this pairing."""
    return has[student] == student


def count_pairs(has):
    """How many pairs this pairing has."""
    return len([student for student in range(len(has)) if has[student] > student])


def told(has):
    """The pairing as the document tells it: six numbers, 0 for alone or not there."""
    row = [0 if is_alone(has, student) else has[student] + 1 for student in range(len(has))]
    return row + [0] * (MOST_STUDENTS - len(has))


def from_told(wishes, row):
    """The pairing that is told by six numbers, or None if they tell none."""
    has = [student if row[student] == 0 else row[student] - 1 for student in range(wishes.number)]
    for student, other in enumerate(has):
        if other != student and not is_told_pair(wishes, has, student, other):
            return None
    return tuple(has)


def is_told_pair(wishes, has, student, other):
    """Whether the other one is there, has the student in turn, and the two would share."""
    return wishes.there(other) and has[other] == student and wishes.share(student, other)


def parted(has, student):
    """The pairing after the student and whom they have are parted."""
    rest = list(has)
    rest[has[student]] = has[student]
    rest[student] = student
    return tuple(rest)


def joined(has, one, other):
    """The pairing after two who are alone are paired."""
    rest = list(has)
    rest[one] = other
    rest[other] = one
    return tuple(rest)


def broken(has, one, other):
    """The pairing after it is broken by these two."""
    return joined(parted(parted(has, one), other), one, other)


def would_break(wishes, has, one, other):
    """Whether each of the two would rather have the other than as they are.

    Nobody has anyone whom they wouldn't share with, so who is gladder so
    is on the list, and not had already: no more needs to be asked.
    """
    ranks = wishes.ranks
    return ranks[one][other] < ranks[one][has[one]] and ranks[other][one] < ranks[other][has[other]]


def breakers(wishes, has):
    """All twos who would break this pairing, in order."""
    return [two for two in wishes.twos if would_break(wishes, has, two[0], two[1])]


def it_holds(wishes, has):
    """Whether no two would break this pairing."""
    for two in wishes.twos:
        if would_break(wishes, has, two[0], two[1]):
            return False
    return True


def every_pairing(wishes):
    """All pairings, in order.

    Student by student each pairing so far goes on as it is, then with each
    later one as mate: this order is the document's, so nothing is sorted.
    """
    found = [all_alone(wishes.number)]
    for student in range(wishes.number):
        further = []
        for has in found:
            further.extend(choices(wishes, has, student))
        found = further
    return found


def choices(wishes, has, student):
    """This pairing, and those in which the student has a later one who is alone in it."""
    options = [has]
    if is_alone(has, student):
        for two in wishes.twos:
            if two[0] == student and is_alone(has, two[1]):
                options.append(joined(has, student, two[1]))
    return options


def pairings_that_hold(wishes):
    """All pairings that hold, in order."""
    return [has for has in every_pairing(wishes) if it_holds(wishes, has)]


def count_gladder(wishes, has, before):
    """How many would rather have the first pairing than the second."""
    ranks = wishes.ranks
    glad = [one for one in range(wishes.number) if ranks[one][has[one]] < ranks[one][before[one]]]
    return len(glad)


def votes_out(wishes, has, before):
    """Whether the first pairing votes the second one out."""
    return count_gladder(wishes, has, before) > count_gladder(wishes, before, has)


def is_voted_out(wishes, before, pairings):
    """Whether one of these pairings votes out the one before.

    The last ones are looked at first: they have more pairs, and so are
    more often the ones that do.
    """
    for has in reversed(pairings):
        if votes_out(wishes, has, before):
            return True
    return False


def never_voted_out(wishes):
    """All pairings that aren't voted out by any, in order."""
    pairings = every_pairing(wishes)
    return [has for has in pairings if not is_voted_out(wishes, has, pairings)]


def with_most_pairs(wishes):
    """All pairings that have the most pairs, in order."""
    pairings = every_pairing(wishes)
    most = max([count_pairs(has) for has in pairings])
    return [has for has in pairings if count_pairs(has) == most]


def who_is_alone(has):
    """The students who are alone in this pairing."""
    return [student for student in range(len(has)) if is_alone(has, student)]
