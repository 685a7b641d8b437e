"""The calls that tell of the house and change nothing.

Each call takes the state and a list of what is handed in, and gives back the
numbers that are answered.
"""

from studenthouse.pairings import breakers, count_gladder, count_pairs, every_pairing, from_told, it_holds
from studenthouse.pairings import told, votes_out, with_most_pairs
from studenthouse.refusals import CANNOT, NOT_THERE, WRONG
from studenthouse.ways import shortest_way
from studenthouse.wishes import MOST_STUDENTS


def hs_holds(state, given):
    return [1 if it_holds(state.wishes, state.has) else 0]


def hs_steps(state, given):
    way = shortest_way(state.wishes, state.has)
    if way is None:
        return [CANNOT]
    return [len(way)]


def hs_nth(state, given):
    way = shortest_way(state.wishes, state.has)
    if way is None:
        return [CANNOT]
    if given[0] >= len(way):
        return [NOT_THERE]
    two = way[given[0]]
    return [two[0], two[1]]


def hs_votes(state, given):
    wishes = state.wishes
    offered = from_told(wishes, given[0])
    if offered is None:
        return [WRONG]
    keep = count_gladder(wishes, state.has, offered)
    return [count_gladder(wishes, offered, state.has), keep, len(breakers(wishes, offered))]


def hs_out(state, given):
    wishes = state.wishes
    better = [has for has in every_pairing(wishes) if votes_out(wishes, has, state.has)]
    if not better:
        return [0] + [0] * MOST_STUDENTS
    return [len(better)] + told(better[0])


def hs_most(state, given):
    best = with_most_pairs(state.wishes)
    return [count_pairs(best)] + told(best)


# By a call's number, behind the changes: what it does, how many whole numbers it has, and whether it has a row.
QUESTIONS = (
    (hs_holds, 0, False),
    (hs_steps, 0, False),
    (hs_nth, 1, False),
    (hs_votes, 0, True),
    (hs_out, 0, False),
    (hs_most, 0, False),
)
