"""The calls on one house, as one list of whole numbers."""

from studenthouse.changes import CHANGES
from studenthouse.history import HISTORY
from studenthouse.questions import QUESTIONS
from studenthouse.state import State


def answers(calls):
    """What each of the calls answers, each with how many numbers that are before it."""
    state = State()
    given_back = []
    at = 0
    while at < len(calls):
        form = form_of(calls[at])
        end = end_of_call(calls, at, form)
        answer = form[0](state, what_is_given(calls, at, end, form))
        given_back.append(len(answer))
        given_back.extend(answer)
        at = end
    return given_back


def form_of(number):
    """What the call of this number does, how many whole numbers it has, and whether it has a row."""
    return (CHANGES + QUESTIONS + HISTORY)[number]


def end_of_call(calls, at, form):
    """The place behind the call that begins at this place."""
    end = at + 1 + form[1]
    if form[2]:
        end += 1 + calls[end]
    return end


def what_is_given(calls, at, end, form):
    """The call's whole numbers, then its row, if it has one, as a list of its own."""
    row_at = at + 1 + form[1]
    given = calls[at + 1:row_at]
    if form[2]:
        given.append(calls[row_at + 1:end])
    return given
