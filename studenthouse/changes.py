"""The start, and the calls that change the house.

Each call takes the state and a list of what is handed in, and gives back the
numbers that are answered. What is refused is refused before anything changes.
"""

from studenthouse.pairings import breakers, broken, count_pairs, is_alone, joined, pairings_that_hold
from studenthouse.pairings import parted, told, would_break
from studenthouse.refusals import CANNOT, FULL, HOLDS_ALREADY, NOBODY, NOT_THERE, PAIRED, WRONG
from studenthouse.ways import end_of, shortest_way
from studenthouse.wishes import LONGEST_LIST, MOST_STUDENTS, is_list


def hs_start(state, given):
    number = given[0]
    if number > MOST_STUDENTS:
        return [WRONG]
    state.begin(number)
    return [0]


def hs_wish(state, given):
    student = given[0]
    if state.lacks(student):
        return [NOT_THERE]
    count = given[1]
    wanted = given[2][:count]
    if count > LONGEST_LIST or not is_list(wanted, state.wishes.number, student):
        return [WRONG]
    before = len(state.wishes.lists[student])
    wishes = state.wishes.with_list(student, wanted)
    has = state.has
    if not wishes.share(student, has[student]):
        has = parted(has, student)
    state.change(wishes, has)
    return [before, count_pairs(has)]


def hs_in(state, given):
    newcomer = state.wishes.number
    if newcomer == MOST_STUDENTS:
        return [FULL]
    count = given[0]
    wanted = given[1][:count]
    if count > LONGEST_LIST or not is_list(wanted, newcomer, newcomer):
        return [WRONG]
    state.change(state.wishes.with_one_more(wanted), state.has + (newcomer,))
    return [newcomer]


def hs_away(state, given):
    if state.wishes.number == 0:
        return [NOBODY]
    last = state.wishes.number - 1
    mate = told(state.has)[last]
    state.change(state.wishes.without_last(), parted(state.has, last)[:last])
    return [last, mate]


def hs_pair(state, given):
    one = given[0]
    other = given[1]
    if state.lacks(one) or state.lacks(other):
        return [NOT_THERE]
    if not state.wishes.share(one, other):
        return [CANNOT]
    if not is_alone(state.has, one) or not is_alone(state.has, other):
        return [PAIRED]
    state.change(state.wishes, joined(state.has, one, other))
    return [count_pairs(state.has)]


def hs_part(state, given):
    student = given[0]
    if state.lacks(student):
        return [NOT_THERE]
    if is_alone(state.has, student):
        return [NOBODY]
    mate = state.has[student]
    state.change(state.wishes, parted(state.has, student))
    return [mate]


def hs_break(state, given):
    one = given[0]
    other = given[1]
    if state.lacks(one) or state.lacks(other):
        return [NOT_THERE]
    if not would_break(state.wishes, state.has, one, other):
        return [CANNOT]
    state.change(state.wishes, broken(state.has, one, other))
    return [count_pairs(state.has), len(breakers(state.wishes, state.has))]


def hs_step(state, given):
    way = shortest_way(state.wishes, state.has)
    if way is None:
        return [CANNOT]
    if not way:
        return [HOLDS_ALREADY]
    two = way[0]
    state.change(state.wishes, broken(state.has, two[0], two[1]))
    return [len(way) - 1, two[0], two[1]]


def hs_settle(state, given):
    way = shortest_way(state.wishes, state.has)
    if way is None:
        return [CANNOT]
    if not way:
        return [HOLDS_ALREADY]
    state.change(state.wishes, end_of(state.has, way))
    return [len(way)] + told(state.has)


def hs_take(state, given):
    holding = pairings_that_hold(state.wishes)
    if given[0] >= len(holding):
        return [NOT_THERE]
    state.change(state.wishes, holding[given[0]])
    return [count_pairs(state.has)] + told(state.has)


# By a call's number: what it does, how many whole numbers it has, and whether it has a row.
CHANGES = (
    (hs_start, 1, False),
    (hs_wish, 2, True),
    (hs_in, 1, True),
    (hs_away, 0, False),
    (hs_pair, 2, False),
    (hs_part, 1, False),
    (hs_break, 2, False),
    (hs_step, 0, False),
    (hs_settle, 0, False),
    (hs_take, 1, False),
)
