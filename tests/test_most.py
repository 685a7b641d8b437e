"""Of point 6 hs_lost, hs_why, hs_may, hs_good, hs_alone and hs_best; hs_most is in test_votes."""

import unittest

from helper import ALL_OTHERS, HouseCase, LONG_WAY, LONG_WAY_PAIRS, MIDDLE_HOLDS, NONE_OF_SIX, RING_AND_FOURTH
from helper import RING_OF_THREE, THREE_HOLD, TOP, TWO_HOLD, TWO_STARS, house

NOTHING_HOLDS = (
    (RING_OF_THREE, []), (RING_OF_THREE, [(0, 1)]), (RING_AND_FOURTH, [(0, 3), (1, 2)]),
    (NONE_OF_SIX, [(0, 3), (1, 4), (2, 5)]),
)


class Lost(HouseCase):
    def test_how_many_fewer_and_how_many(self):
        self.expect(house(MIDDLE_HOLDS), (("hs_lost",), [1, 1]))
        self.expect(house(TWO_STARS), (("hs_lost",), [1, 1]))
        self.expect(house(TWO_HOLD), (("hs_lost",), [0, 2]))
        self.expect(house(THREE_HOLD), (("hs_lost",), [0, 3]))
        self.expect(house([[1, 2, 3], [0], [0], [0]]), (("hs_lost",), [0, 1]))

    def test_it_does_not_depend_on_the_pairs_as_they_are(self):
        self.expect(house(MIDDLE_HOLDS, [(0, 1), (2, 3)]), (("hs_lost",), [1, 1]), (("hs_all",), [2, 2, 1, 4, 3, 0, 0]))

    def test_nobody_would_share(self):
        for number in (0, 1, 6):
            self.expect([("hs_start", number)], (("hs_lost",), [0, 0]))

    def test_no_pairing_holds(self):
        for lists, pairs in NOTHING_HOLDS:
            self.refused(house(lists, pairs), len(lists), ("hs_lost",), -33)


class Why(HouseCase):
    def test_the_set_and_how_many_beyond(self):
        self.expect(house([[1, 2, 3], [0], [0], [0]]), (("hs_why",), [2, 1]))
        self.expect(house([[3], [3], [3], [0, 1, 2]]), (("hs_why",), [2, 8]))
        self.expect(house([[5, 4], [4, 5], [4, 5], [5, 4], [0, 1, 2, 3], [3, 2, 1, 0]]), (("hs_why",), [2, 48]))
        self.expect(house([[5], [5], [5], [5], [5], [0, 1, 2, 3, 4]]), (("hs_why",), [4, 32]))

    def test_of_like_ones_the_one_without_the_least_in_which_they_differ(self):
        # Without 0, without 1, and without both, two odd parts are left beyond as many: 1 alone is told.
        self.expect(house(TWO_STARS), (("hs_why",), [2, 2]))
        # Likewise with the middles named otherwise, where 3 is told in the place of 2.
        self.expect(house([[2], [3], [0, 4, 3], [1, 5, 2], [2], [3]]), (("hs_why",), [2, 8]))
        # The middle of three and the empty set: the empty one is told.
        self.expect(house([[1], [0, 2], [1]]), (("hs_why",), [1, 0]))
        # 0, also with 4, also with 5.
        self.expect(house([[1, 2, 3], [0], [0], [0], [5], [4]]), (("hs_why",), [2, 1]))

    def test_no_more_need_stay_alone_than_the_empty_set_tells(self):
        self.expect(house(ALL_OTHERS), (("hs_why",), [0, 0]))
        self.expect(house(ALL_OTHERS) + [("hs_away",)], (("hs_why",), [1, 0]))
        self.expect(house(RING_OF_THREE + [[4, 5], [5, 3], [3, 4]]), (("hs_why",), [2, 0]))

    def test_nobody_would_share(self):
        self.expect([("hs_start", 0)], (("hs_why",), [0, 0]))
        self.expect([("hs_start", 1)], (("hs_why",), [1, 0]))
        self.expect([("hs_start", 6)], (("hs_why",), [6, 0]))

    def test_who_is_on_one_list_alone_does_not_hang_together(self):
        self.expect(house([[1], [2], [0]]), (("hs_why",), [3, 0]))


class May(HouseCase):
    def test_who_may_stay_alone(self):
        self.expect(house([[1, 2, 3], [0], [0], [0]]), (("hs_may",), [3, 14]))
        self.expect(house(TWO_STARS), (("hs_may",), [4, 60]))
        self.expect(house([[1], [0, 2], [1, 3], [2, 4], [3]]), (("hs_may",), [3, 21]))
        self.expect(house(RING_OF_THREE), (("hs_may",), [3, 7]))
        self.expect(house([[1, 2], [2, 0], [0, 1], [4], [3], []]), (("hs_may",), [4, 39]))

    def test_nobody(self):
        self.expect(house(ALL_OTHERS), (("hs_may",), [0, 0]))
        self.expect(house(MIDDLE_HOLDS, [(1, 2)]), (("hs_may",), [0, 0]))
        self.expect([("hs_start", 0)], (("hs_may",), [0, 0]))

    def test_everybody(self):
        self.expect([("hs_start", 1)], (("hs_may",), [1, 1]))
        self.expect([("hs_start", 6)], (("hs_may",), [6, 63]))


class Good(HouseCase):
    def test_how_many_hold_are_not_voted_out_and_are(self):
        self.expect(house(MIDDLE_HOLDS), (("hs_good",), [1, 2, 5]))
        self.expect(house(TWO_STARS), (("hs_good",), [1, 2, 10]))
        self.expect(house(TWO_HOLD), (("hs_good",), [2, 2, 7]))
        self.expect(house(THREE_HOLD), (("hs_good",), [3, 3, 34]))
        self.expect(house(LONG_WAY, LONG_WAY_PAIRS), (("hs_good",), [1, 4, 76]))
        self.expect(house(ALL_OTHERS), (("hs_good",), [1, 3, 76]))

    def test_none_holds_and_some_or_none_are_not_voted_out(self):
        self.expect(house(RING_OF_THREE), (("hs_good",), [0, 0, 4]))
        self.expect(house(RING_AND_FOURTH), (("hs_good",), [0, 2, 10]))
        self.expect(house(NONE_OF_SIX), (("hs_good",), [0, 2, 76]))

    def test_nobody_would_share(self):
        for number in (0, 1, 6):
            self.expect([("hs_start", number)], (("hs_good",), [1, 1, 1]))


class Alone(HouseCase):
    def test_who_is_alone_in_the_first_that_holds(self):
        self.expect(house(MIDDLE_HOLDS), (("hs_alone",), [2, 9]))
        self.expect(house(TWO_STARS), (("hs_alone",), [4, 60]))
        self.expect(house([[1], [0, 2], [1, 3], [2, 4], [3]]), (("hs_alone",), [1, 16]))
        self.expect(house(TWO_HOLD), (("hs_alone",), [0, 0]))

    def test_it_does_not_depend_on_the_pairs_as_they_are(self):
        self.expect(house(MIDDLE_HOLDS, [(0, 1), (2, 3)]), (("hs_alone",), [2, 9]))

    def test_nobody_would_share(self):
        self.expect([("hs_start", 0)], (("hs_alone",), [0, 0]))
        self.expect([("hs_start", 1)], (("hs_alone",), [1, 1]))
        self.expect([("hs_start", 6)], (("hs_alone",), [6, 63]))

    def test_no_pairing_holds(self):
        for lists, pairs in NOTHING_HOLDS:
            self.refused(house(lists, pairs), len(lists), ("hs_alone",), -33)


class Best(HouseCase):
    def test_the_one_they_would_rather_have_of_all_that_hold(self):
        self.expect(house(TWO_HOLD), *[(("hs_best", student), [[2], [3], [1], [0]][student]) for student in range(4)])
        self.expect(
            house(THREE_HOLD, [(0, 4), (1, 5), (2, 3)]),
            *[(("hs_best", student), [[3], [4], [5], [1], [2], [0]][student]) for student in range(6)],
        )

    def test_not_one_who_is_had_in_no_pairing_that_holds(self):
        self.expect(house(LONG_WAY), *[(("hs_best", one), [[1], [0], [5], [4], [3], [2]][one]) for one in range(6)])

    def test_alone_is_told_by_their_own_number(self):
        self.expect(house(MIDDLE_HOLDS), *[(("hs_best", one), [[0], [2], [1], [3]][one]) for one in range(4)])
        self.expect([("hs_start", 6)], *[(("hs_best", one), [one]) for one in range(6)])

    def test_who_is_not_there_is_told_before_that_none_holds(self):
        for absent in (3, 4, 6, 2147483648, TOP):
            self.refused(house(RING_OF_THREE), 3, ("hs_best", absent), -2)
        for absent in (4, 5, TOP):
            self.refused(house(TWO_HOLD, [(0, 2)]), 4, ("hs_best", absent), -2)
        self.refused([("hs_start", 0)], 0, ("hs_best", 0), -2)
        self.refused(house(NONE_OF_SIX), 6, ("hs_best", 6), -2)

    def test_no_pairing_holds(self):
        for lists, pairs in NOTHING_HOLDS:
            for student in range(len(lists)):
                self.expect(house(lists, pairs), (("hs_best", student), [-33]))
            self.refused(house(lists, pairs), len(lists), ("hs_best", 0), -33)


if __name__ == "__main__":
    unittest.main()
