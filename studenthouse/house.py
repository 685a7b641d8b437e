"""The calls on one house, as one list of whole numbers."""

from studenthouse.changes import CHANGES
from studenthouse.questions import QUESTIONS
from studenthouse.state import State


def answers(calls):
    """What each of the calls answers, each with how many numbers that are before it."""
    state = State()
    given_back = []
    at = 0
    while at < len(calls):
        form = form_of(calls[at])
        given = what_is_given(calls, at + 1, form)
        answer = form[0](state, given)
        given_back.append(len(answer))
        given_back.extend(answer)
        at += 1 + length_of(given)
    return given_back


def form_of(number):
    """What the call of this number does, and how many numbers and rows it has."""
    if number < len(CHANGES):
        return CHANGES[number]
    return QUESTIONS[number - len(CHANGES)]


def what_is_given(calls, at, form):
    """The call's whole numbers from this place on, then its rows, as lists of their own."""
    given = calls[at:at + form[1]]
    at += form[1]
    for turn in range(form[2]):
        count = calls[at]
        given.append(calls[at + 1:at + 1 + count])
        at += 1 + count
    return given


def length_of(given):
    """How many numbers it took to hand this in."""
    return sum([1 + len(part) if isinstance(part, list) else 1 for part in given])
