"""Point 4, and of point 5 what tells of ways: hs_step, hs_settle, hs_take, hs_holds, hs_steps, hs_nth."""

import unittest

from helper import HouseCase, LONG_WAY, LONG_WAY_PAIRS, NONE_OF_SIX, RING_AND_FOURTH, RING_OF_THREE
from helper import THREE_HOLD, TOP, TWO_HOLD, house

NOTHING_HOLDS = (
    (RING_OF_THREE, []), (RING_OF_THREE, [(0, 1)]), (RING_AND_FOURTH, []), (RING_AND_FOURTH, [(0, 3), (1, 2)]),
    (NONE_OF_SIX, []), (NONE_OF_SIX, [(0, 3), (1, 4), (2, 5)]),
)


class Step(HouseCase):
    def test_step_by_step_to_the_end(self):
        self.expect(
            house(LONG_WAY, LONG_WAY_PAIRS),
            (("hs_step",), [3, 1, 3]),
            (("hs_votes", [6, 4, 0, 2, 0, 1]), [0, 0, 6]),
            (("hs_step",), [2, 2, 5]),
            (("hs_step",), [1, 0, 1]),
            (("hs_step",), [0, 3, 4]),
            (("hs_votes", [2, 1, 6, 5, 4, 3]), [0, 0, 0]),
            (("hs_step",), [-17]),
        )

    def test_of_like_ways_the_first(self):
        self.expect(
            house([[1], [0], [3], [2], [5], [4]]),
            (("hs_step",), [2, 0, 1]),
            (("hs_step",), [1, 2, 3]),
            (("hs_step",), [0, 4, 5]),
        )

    def test_the_first_two_need_not_be_on_a_shortest_way(self):
        self.expect(
            house([[2, 1], [0], [0]]),
            (("hs_step",), [0, 0, 2]),
        )

    def test_the_first_way_even_if_it_ends_in_a_later_pairing(self):
        self.expect(
            house(TWO_HOLD),
            (("hs_nth", 0), [0, 2]),
            (("hs_nth", 1), [1, 3]),
            (("hs_step",), [1, 0, 2]),
            (("hs_step",), [0, 1, 3]),
            (("hs_holds",), [1]),
        )

    def test_no_pairing_holds(self):
        for lists, pairs in NOTHING_HOLDS:
            self.refused(house(lists, pairs), len(lists), ("hs_step",), -33)

    def test_it_holds_already(self):
        self.refused([("hs_start", 0)], 0, ("hs_step",), -17)
        self.refused([("hs_start", 6)], 6, ("hs_step",), -17)
        self.refused(house(TWO_HOLD, [(0, 2), (1, 3)]), 4, ("hs_step",), -17)
        self.refused(house(TWO_HOLD, [(0, 3), (1, 2)]), 4, ("hs_step",), -17)


class Settle(HouseCase):
    def test_to_the_end_of_the_shortest_way(self):
        self.expect(
            house(LONG_WAY, LONG_WAY_PAIRS),
            (("hs_settle",), [4, 2, 1, 6, 5, 4, 3]),
            (("hs_votes", [2, 1, 6, 5, 4, 3]), [0, 0, 0]),
            (("hs_holds",), [1]),
            (("hs_settle",), [-17]),
        )

    def test_who_is_alone_or_not_there_is_told_as_0(self):
        self.expect(house([[3], [], [], [0]]), (("hs_settle",), [1, 4, 0, 0, 1, 0, 0]))

    def test_of_like_ways_the_first(self):
        self.expect(house(TWO_HOLD), (("hs_settle",), [2, 3, 4, 1, 2, 0, 0]))
        self.expect(house(THREE_HOLD), (("hs_settle",), [3, 4, 5, 6, 1, 2, 3]))

    def test_no_pairing_holds(self):
        for lists, pairs in NOTHING_HOLDS:
            self.refused(house(lists, pairs), len(lists), ("hs_settle",), -33)

    def test_it_holds_already(self):
        self.refused([("hs_start", 0)], 0, ("hs_settle",), -17)
        self.refused([("hs_start", 1)], 1, ("hs_settle",), -17)
        self.refused(house(THREE_HOLD, [(0, 4), (1, 5), (2, 3)]), 6, ("hs_settle",), -17)


class Take(HouseCase):
    def test_pairings_that_hold_are_in_order(self):
        self.expect(
            house(TWO_HOLD),
            (("hs_take", 0), [2, 3, 4, 1, 2, 0, 0]),
            (("hs_votes", [3, 4, 1, 2, 0, 0]), [0, 0, 0]),
            (("hs_take", 1), [2, 4, 3, 2, 1, 0, 0]),
            (("hs_votes", [4, 3, 2, 1, 0, 0]), [0, 0, 0]),
            (("hs_take", 1), [2, 4, 3, 2, 1, 0, 0]),
        )
        self.expect(
            house(THREE_HOLD, [(0, 3)]),
            (("hs_take", 2), [3, 6, 4, 5, 2, 3, 1]),
            (("hs_take", 1), [3, 5, 6, 4, 3, 1, 2]),
            (("hs_take", 0), [3, 4, 5, 6, 1, 2, 3]),
        )

    def test_all_who_were_paired_otherwise_are_paired_so(self):
        self.expect(
            house([[1], [0, 2], [1]], [(1, 2)]),
            (("hs_take", 0), [1, 2, 1, 0, 0, 0, 0]),
            (("hs_part", 2), [-6]),
            (("hs_part", 1), [0]),
        )

    def test_nobody_paired_may_hold(self):
        self.expect(house([[1], [2], [0]]), (("hs_take", 0), [0, 0, 0, 0, 0, 0, 0]), (("hs_take", 1), [-2]))

    def test_no_such_pairing(self):
        for place in (2, 3, TOP):
            self.refused(house(TWO_HOLD, [(0, 2)]), 4, ("hs_take", place), -2)
        for place in (3, TOP):
            self.refused(house(THREE_HOLD, [(0, 4)]), 6, ("hs_take", place), -2)
        for lists, pairs in NOTHING_HOLDS:
            self.refused(house(lists, pairs), len(lists), ("hs_take", 0), -2)
        self.refused([("hs_start", 0)], 0, ("hs_take", 1), -2)


class Ways(HouseCase):
    def test_holds(self):
        self.expect(house(TWO_HOLD, [(0, 2)]), (("hs_holds",), [0]))
        self.expect(house(TWO_HOLD, [(0, 2), (1, 3)]), (("hs_holds",), [1]))
        self.expect(house(RING_OF_THREE, [(1, 2)]), (("hs_holds",), [0]))
        self.expect([("hs_start", 6)], (("hs_holds",), [1]))

    def test_steps(self):
        self.expect(house(LONG_WAY, LONG_WAY_PAIRS), (("hs_steps",), [4]))
        self.expect(house(TWO_HOLD), (("hs_steps",), [2]))
        self.expect(house(TWO_HOLD, [(0, 3), (1, 2)]), (("hs_steps",), [0]))
        self.expect(house([[2, 1], [0], [0]]), (("hs_steps",), [1]))

    def test_nth_tells_the_lesser_one_then_the_other(self):
        self.expect(
            house(LONG_WAY, LONG_WAY_PAIRS),
            (("hs_nth", 0), [1, 3]),
            (("hs_nth", 1), [2, 5]),
            (("hs_nth", 2), [0, 1]),
            (("hs_nth", 3), [3, 4]),
            (("hs_steps",), [4]),
        )

    def test_no_such_break(self):
        for place in (4, 5, TOP):
            self.refused(house(LONG_WAY, LONG_WAY_PAIRS), 6, ("hs_nth", place), -2)
        self.refused(house(TWO_HOLD, [(0, 2), (1, 3)]), 4, ("hs_nth", 0), -2)
        self.refused([("hs_start", 0)], 0, ("hs_nth", 0), -2)

    def test_no_pairing_holds(self):
        for lists, pairs in NOTHING_HOLDS:
            before = house(lists, pairs)
            self.refused(before, len(lists), ("hs_steps",), -33)
            self.refused(before, len(lists), ("hs_nth", 0), -33)
            self.refused(before, len(lists), ("hs_nth", TOP), -33)


if __name__ == "__main__":
    unittest.main()
