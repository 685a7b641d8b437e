"""The calls that take changes back, do them again, and tell how many there are.

Each call takes the state and a list of what is handed in, and gives back the
numbers that are answered.
"""

from studenthouse.refusals import NOT_THERE


def hs_back(state, given):
    if not state.past:
        return [NOT_THERE]
    state.take_back()
    return [len(state.past)]


def hs_again(state, given):
    if not state.undone:
        return [NOT_THERE]
    state.do_again()
    return [len(state.undone)]


def hs_state(state, given):
    return [state.wishes.number, len(state.past), len(state.undone)]


# By a call's number, behind the questions: what it does, how many whole numbers it has, and whether it has a row.
HISTORY = (
    (hs_back, 0, False),
    (hs_again, 0, False),
    (hs_state, 0, False),
)
