"""The calls that tell of the house and change nothing.

Each call takes the state and a list of what is handed in, and gives back the
numbers that are answered.
"""

from studenthouse.pairings import breakers, count_gladder, count_pairs, every_pairing, from_told, is_alone, it_holds
from studenthouse.pairings import never_voted_out, pairings_that_hold, told, votes_out, who_is_alone, with_most_pairs
from studenthouse.parts import as_bits, odd_beyond, set_that_tells_why
from studenthouse.refusals import CANNOT, NOBODY, NOT_THERE, WRONG
from studenthouse.rings import count_odd, rings_told, told_rings
from studenthouse.ways import shortest_way
from studenthouse.wishes import LONGEST_LIST, MOST_STUDENTS


def hs_holds(state, given):
    return [1 if it_holds(state.wishes, state.has) else 0]


def hs_steps(state, given):
    way = shortest_way(state.wishes, state.has)
    if way is None:
        return [CANNOT]
    return [len(way)]


def hs_nth(state, given):
    way = shortest_way(state.wishes, state.has)
    if way is None:
        return [CANNOT]
    if given[0] >= len(way):
        return [NOT_THERE]
    two = way[given[0]]
    return [two[0], two[1]]


def hs_votes(state, given):
    wishes = state.wishes
    offered = from_told(wishes, given[0])
    if offered is None:
        return [WRONG]
    keep = count_gladder(wishes, state.has, offered)
    return [count_gladder(wishes, offered, state.has), keep, len(breakers(wishes, offered))]


def hs_out(state, given):
    wishes = state.wishes
    better = [has for has in every_pairing(wishes) if votes_out(wishes, has, state.has)]
    if not better:
        return [0] + [0] * MOST_STUDENTS
    return [len(better)] + told(better[0])


def hs_most(state, given):
    best = with_most_pairs(state.wishes)[0]
    return [count_pairs(best)] + told(best)


def hs_lost(state, given):
    holding = pairings_that_hold(state.wishes)
    if not holding:
        return [CANNOT]
    pairs = count_pairs(holding[0])
    return [count_pairs(with_most_pairs(state.wishes)[0]) - pairs, pairs]


def hs_why(state, given):
    why = set_that_tells_why(state.wishes)
    return [odd_beyond(state.wishes, why), why]


def hs_may(state, given):
    best = with_most_pairs(state.wishes)
    may = [one for one in range(state.wishes.number) if any([is_alone(has, one) for has in best])]
    return [len(may), as_bits(may)]


def hs_good(state, given):
    wishes = state.wishes
    return [len(pairings_that_hold(wishes)), len(never_voted_out(wishes)), len(every_pairing(wishes))]


def hs_rings(state, given):
    nexts = rings_told(state.wishes)
    return [count_odd(nexts)] + told_rings(nexts)


def hs_alone(state, given):
    holding = pairings_that_hold(state.wishes)
    if not holding:
        return [CANNOT]
    alone = who_is_alone(holding[0])
    return [len(alone), as_bits(alone)]


def hs_best(state, given):
    student = given[0]
    if state.lacks(student):
        return [NOT_THERE]
    holding = pairings_that_hold(state.wishes)
    if not holding:
        return [CANNOT]
    ranks = state.wishes.ranks[student]
    return [min([has[student] for has in holding], key=lambda mate: ranks[mate])]


def hs_rather(state, given):
    wishes = state.wishes
    holding = pairings_that_hold(wishes)
    if given[0] >= len(holding):
        return [NOT_THERE]
    offered = holding[given[0]]
    return [count_gladder(wishes, offered, state.has), count_gladder(wishes, state.has, offered)]


def hs_breakers(state, given):
    twos = breakers(state.wishes, state.has)
    if not twos:
        return [0, 0, 0]
    return [len(twos), twos[0][0], twos[0][1]]


def hs_with(state, given):
    student = given[0]
    if state.lacks(student):
        return [NOT_THERE]
    if is_alone(state.has, student):
        return [NOBODY]
    return [state.has[student]]


def hs_look(state, given):
    student = given[0]
    if state.lacks(student):
        return [NOT_THERE]
    wanted = state.wishes.lists[student]
    return [len(wanted)] + [other + 1 for other in wanted] + [0] * (LONGEST_LIST - len(wanted))


def hs_all(state, given):
    return [count_pairs(state.has)] + told(state.has)


# By a call's number, behind the changes: what it does, how many whole numbers it has, and whether it has a row.
QUESTIONS = (
    (hs_holds, 0, False),
    (hs_steps, 0, False),
    (hs_nth, 1, False),
    (hs_votes, 0, True),
    (hs_out, 0, False),
    (hs_most, 0, False),
    (hs_lost, 0, False),
    (hs_why, 0, False),
    (hs_may, 0, False),
    (hs_good, 0, False),
    (hs_rings, 0, False),
    (hs_alone, 0, False),
    (hs_best, 1, False),
    (hs_rather, 1, False),
    (hs_breakers, 0, False),
    (hs_with, 1, False),
    (hs_look, 1, False),
    (hs_all, 0, False),
)
