"""What the document says holds, on many houses."""

import itertools
import random
import unittest

from helper import LONG_WAY, NONE_OF_SIX, PlainHouse, THREE_HOLD, TWO_HOLD, come, house, run, seen, wish


def some_houses():
    """Lists of many houses, full ones and others."""
    found = [TWO_HOLD, THREE_HOLD, LONG_WAY, NONE_OF_SIX]
    chance = random.Random(58)
    for turn in range(60):
        count = chance.choice([2, 3, 4, 5, 6, 6])
        lists = []
        for student in range(count):
            others = [other for other in range(count) if other != student]
            chance.shuffle(others)
            lists.append(others[:chance.choice([1, 3, 5, 5, 5])])
        found.append(lists)
    return found


def every_pairs(lists):
    """Every pairing of the house."""
    plain = PlainHouse()
    for call in house(lists):
        plain.answer(call)
    return [sorted(pairs) for pairs in plain.every_pairing()]


def some_pairs(lists):
    """Every pairing of the house, or every fifth if there are many."""
    pairings = every_pairs(lists)
    return pairings[::5 if len(pairings) > 20 else 1]


def all_taken(lists):
    """What hs_take answers of each pairing that holds."""
    found = []
    for place in itertools.count():
        taken = run(house(lists) + [("hs_take", place)])[-1]
        if taken == [-2]:
            return found
        found.append(taken)


def alone_of(told, number):
    """What hs_alone answers of the pairing that is told."""
    alone = [student for student in range(number) if told[1 + student] == 0]
    return [len(alone), sum(1 << student for student in alone)]


class WhatHolds(unittest.TestCase):
    def cases(self):
        for lists in some_houses():
            holds = run(house(lists) + [("hs_take", 0)])[-1] != [-2]
            for pairs in some_pairs(lists):
                yield lists, holds, house(lists, pairs)

    def test_there_is_a_way_just_where_some_pairing_holds(self):
        for lists, holds, before in self.cases():
            steps = run(before + [("hs_steps",)])[-1][0]
            self.assertEqual(steps >= 0, holds, before)
            settled = run(before + [("hs_settle",), ("hs_holds",)])[-2:]
            if steps > 0:
                self.assertEqual([settled[0][0], settled[1]], [steps, [1]], before)
            else:
                self.assertEqual(settled, [[-33], [0]] if steps < 0 else [[-17], [1]], before)

    def test_the_breaks_told_lead_there_each_made_by_two_who_would(self):
        for lists, holds, before in self.cases():
            steps = run(before + [("hs_steps",)])[-1][0]
            twos = run(before + [("hs_nth", place) for place in range(max(steps, 0))])[len(before):]
            breaks = run(before + [("hs_break", one, other) for one, other in twos] + [("hs_holds",)])[len(before):]
            self.assertTrue(all(answer[0] >= 0 for answer in breaks), before)
            if holds:
                self.assertEqual(breaks[-1], [1], before)

    def test_a_pairing_that_holds_is_never_voted_out(self):
        for lists in some_houses():
            for place in itertools.count():
                taken, holds, out = run(house(lists) + [("hs_take", place), ("hs_holds",), ("hs_out",)])[-3:]
                if taken == [-2]:
                    break
                self.assertEqual([holds, out], [[1], [0] * 7], lists)

    def test_how_many_are_never_voted_out(self):
        for lists in some_houses():
            holding, good, count = run(house(lists) + [("hs_good",)])[-1]
            self.assertLessEqual(holding, good, lists)
            self.assertEqual(len(all_taken(lists)), holding, lists)
            outs = [run(house(lists, pairs) + [("hs_out",)])[-1][0] for pairs in every_pairs(lists)]
            self.assertEqual([len(outs), outs.count(0)], [count, good], lists)

    def test_pairings_that_hold_have_as_many_pairs_and_at_least_half_the_most(self):
        for lists in some_houses():
            most, lost = run(house(lists) + [("hs_most",), ("hs_lost",)])[-2:]
            counts = {taken[0] for taken in all_taken(lists)}
            self.assertLessEqual(len(counts), 1, lists)
            self.assertTrue(all(count <= most[0] <= 2 * count for count in counts), lists)
            self.assertEqual(lost, [[most[0] - count, count] for count in counts][0] if counts else [-33], lists)

    def test_as_many_must_stay_alone_as_the_set_told_leaves_odd_parts_beyond(self):
        for lists in some_houses():
            most, why, may = run(house(lists) + [("hs_most",), ("hs_why",), ("hs_may",)])[-3:]
            self.assertEqual(why[0], len(lists) - 2 * most[0], lists)
            self.assertEqual(most[1:].count(0) - (6 - len(lists)), why[0], lists)
            self.assertGreaterEqual(may[0], why[0], lists)
            self.assertEqual(may[0] == 0, why[0] == 0, lists)

    def test_who_moves_in_last_changes_nothing_that_holds_where_nobody_who_would_share_is_alone(self):
        met = {True: 0, False: 0}
        for lists in [lists for lists in some_houses() if len(lists) < 6]:
            holding = range(len(all_taken(lists)))
            sets = [itertools.combinations(range(len(lists)), count) for count in range(4)]
            for place, wanted in itertools.product(holding, itertools.chain(*sets)):
                calls = house(lists) + [("hs_take", place), come(list(wanted)), ("hs_holds",), ("hs_all",)]
                taken, number, holds, after = run(calls)[-4:]
                nobody_alone = all(taken[1 + student] > 0 for student in wanted)
                self.assertEqual([holds, after], [[int(nobody_alone)], taken], calls)
                met[nobody_alone] += 1
        self.assertGreater(min(met.values()), 50)

    def test_settled_it_holds_and_the_same_are_alone_in_all_that_hold(self):
        for lists, holds, before in self.cases():
            found = run(before + [("hs_settle",), ("hs_holds",), ("hs_all",), ("hs_alone",)])[-4:]
            if holds:
                self.assertEqual(found[1], [1], before)
                self.assertEqual(found[3], alone_of(found[2], len(lists)), before)
            else:
                self.assertEqual([found[0], found[3]], [[-33], [-33]], before)
        for lists in some_houses():
            alone = run(house(lists) + [("hs_alone",)])[-1]
            for taken in all_taken(lists):
                self.assertEqual(alone, alone_of(taken, len(lists)), lists)

    def test_whom_they_would_rather_have_of_all_that_hold(self):
        for lists in some_houses():
            holding = all_taken(lists)
            for student, wanted in enumerate(lists):
                mates = [taken[1 + student] - 1 for taken in holding]
                best = [mate for mate in wanted if mate in mates] + [student]
                self.assertEqual(run(house(lists) + [("hs_best", student)])[-1], best[:1] if holding else [-33], lists)

    def test_all_can_be_taken_back_and_done_again(self):
        for lists, holds, before in self.cases():
            changes = [("hs_settle",), ("hs_away",), come([0]), ("hs_part", 0), wish(0, []), ("hs_take", 0)]
            house_calls = [("hs_start", len(lists))]
            states = [run(house_calls + seen(6))[1:]]
            for call in before[1:] + changes:
                house_calls.append(call)
                if run(house_calls)[-1][0] >= 0:
                    states.append(run(house_calls + seen(6))[len(house_calls):])
            count = len(states) - 1
            back = ([("hs_back",)] + seen(6)) * count
            again = ([("hs_again",)] + seen(6)) * count
            found = run(house_calls + back + again)[len(house_calls):]
            for turn in range(2 * count):
                at = count - 1 - turn if turn < count else turn - count + 1
                told = found[turn * 9:(turn + 1) * 9]
                self.assertEqual(told[0], [at if turn < count else count - at], house_calls)
                self.assertEqual(told[1], [states[at][0][0], at, count - at], house_calls)
                self.assertEqual(told[2:], states[at][1:], house_calls)

    def test_each_break_makes_both_gladder_and_two_others_at_most_alone(self):
        for lists, holds, before in self.cases():
            plain = PlainHouse()
            for call in before:
                plain.answer(call)
            for one, other in plain.breakers(plain.pairs):
                after = plain.told(plain.broken(plain.pairs, (one, other)))
                glad, sorry = run(before + [("hs_votes", after)])[-1][:2]
                self.assertEqual(glad, 2, before)
                self.assertLessEqual(sorry, 2, before)
                broken, same = run(before + [("hs_break", one, other), ("hs_votes", after)])[-2:]
                self.assertEqual(same, [0, 0, broken[1]], before)


if __name__ == "__main__":
    unittest.main()
