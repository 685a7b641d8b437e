"""What the document says holds of these calls, on many houses."""

import itertools
import random
import unittest

from helper import LONG_WAY, NONE_OF_SIX, PlainHouse, THREE_HOLD, TWO_HOLD, house, run


def some_houses():
    """Lists of many houses, full ones and others."""
    found = [TWO_HOLD, THREE_HOLD, LONG_WAY, NONE_OF_SIX]
    chance = random.Random(58)
    for turn in range(60):
        count = chance.choice([2, 3, 4, 5, 6, 6])
        lists = []
        for student in range(count):
            others = [other for other in range(count) if other != student]
            chance.shuffle(others)
            lists.append(others[:chance.choice([1, 3, 5, 5, 5])])
        found.append(lists)
    return found


def some_pairs(lists):
    """Every pairing of the house, or every fifth if there are many."""
    plain = PlainHouse()
    for call in house(lists):
        plain.answer(call)
    pairings = plain.every_pairing()
    return [sorted(pairs) for pairs in pairings[::5 if len(pairings) > 20 else 1]]


class WhatHolds(unittest.TestCase):
    def cases(self):
        for lists in some_houses():
            holds = run(house(lists) + [("hs_take", 0)])[-1] != [-2]
            for pairs in some_pairs(lists):
                yield lists, holds, house(lists, pairs)

    def test_there_is_a_way_just_where_some_pairing_holds(self):
        for lists, holds, before in self.cases():
            steps = run(before + [("hs_steps",)])[-1][0]
            self.assertEqual(steps >= 0, holds, before)
            settled = run(before + [("hs_settle",), ("hs_holds",)])[-2:]
            if steps > 0:
                self.assertEqual([settled[0][0], settled[1]], [steps, [1]], before)
            else:
                self.assertEqual(settled, [[-33], [0]] if steps < 0 else [[-17], [1]], before)

    def test_the_breaks_told_lead_there_each_made_by_two_who_would(self):
        for lists, holds, before in self.cases():
            steps = run(before + [("hs_steps",)])[-1][0]
            twos = run(before + [("hs_nth", place) for place in range(max(steps, 0))])[len(before):]
            breaks = run(before + [("hs_break", one, other) for one, other in twos] + [("hs_holds",)])[len(before):]
            self.assertTrue(all(answer[0] >= 0 for answer in breaks), before)
            if holds:
                self.assertEqual(breaks[-1], [1], before)

    def test_a_pairing_that_holds_is_never_voted_out(self):
        for lists in some_houses():
            for place in itertools.count():
                taken, holds, out = run(house(lists) + [("hs_take", place), ("hs_holds",), ("hs_out",)])[-3:]
                if taken == [-2]:
                    break
                self.assertEqual([holds, out], [[1], [0] * 7], lists)

    def test_pairings_that_hold_have_as_many_pairs_and_at_least_half_the_most(self):
        for lists in some_houses():
            most = run(house(lists) + [("hs_most",)])[-1][0]
            taken = run(house(lists) + [("hs_take", place) for place in range(6)])[-6:]
            counts = {answer[0] for answer in taken if answer != [-2]}
            self.assertLessEqual(len(counts), 1, lists)
            self.assertTrue(all(count <= most <= 2 * count for count in counts), lists)

    def test_each_break_makes_both_gladder_and_two_others_at_most_alone(self):
        for lists, holds, before in self.cases():
            plain = PlainHouse()
            for call in before:
                plain.answer(call)
            for one, other in plain.breakers(plain.pairs):
                after = plain.told(plain.broken(plain.pairs, (one, other)))
                glad, sorry = run(before + [("hs_votes", after)])[-1][:2]
                self.assertEqual(glad, 2, before)
                self.assertLessEqual(sorry, 2, before)
                broken, same = run(before + [("hs_break", one, other), ("hs_votes", after)])[-2:]
                self.assertEqual(same, [0, 0, broken[1]], before)


if __name__ == "__main__":
    unittest.main()
