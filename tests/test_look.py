"""Of point 5 hs_breakers and hs_rather; point 7: hs_with, hs_look, hs_all."""

import unittest

from helper import ALL_OTHERS, HouseCase, LONG_WAY, LONG_WAY_PAIRS, MIDDLE_HOLDS, NONE_OF_SIX, RING_OF_THREE
from helper import THREE_HOLD, TOP, TWO_HOLD, come, house, wish


class Breakers(HouseCase):
    def test_how_many_and_the_first_two(self):
        self.expect(house(TWO_HOLD), (("hs_breakers",), [4, 0, 2]))
        self.expect(house(TWO_HOLD, [(0, 2)]), (("hs_breakers",), [2, 1, 2]))
        self.expect(house(RING_OF_THREE, [(0, 1)]), (("hs_breakers",), [1, 1, 2]))
        self.expect(house(LONG_WAY, LONG_WAY_PAIRS), (("hs_breakers",), [1, 1, 3]))
        self.expect(house(ALL_OTHERS), (("hs_breakers",), [15, 0, 1]))
        self.expect(house(ALL_OTHERS, [(0, 1), (2, 5), (3, 4)]), (("hs_breakers",), [2, 2, 3]))

    def test_there_are_none(self):
        for number in (0, 1, 6):
            self.expect([("hs_start", number)], (("hs_breakers",), [0, 0, 0]))
        self.expect(house(TWO_HOLD, [(0, 2), (1, 3)]), (("hs_breakers",), [0, 0, 0]))
        self.expect(house(MIDDLE_HOLDS, [(1, 2)]), (("hs_breakers",), [0, 0, 0]))

    def test_they_are_those_who_can_break_it(self):
        self.expect(
            house(LONG_WAY, LONG_WAY_PAIRS),
            (("hs_breakers",), [1, 1, 3]),
            (("hs_break", 1, 3), [2, 6]),
            (("hs_breakers",), [6, 0, 2]),
            (("hs_break", 0, 2), [2, 4]),
        )


class Rather(HouseCase):
    def test_how_many_would_and_how_many_would_keep_theirs(self):
        self.expect(
            house(TWO_HOLD, [(0, 2), (1, 3)]),
            (("hs_rather", 0), [0, 0]),
            (("hs_rather", 1), [2, 2]),
        )
        self.expect(house(TWO_HOLD), (("hs_rather", 0), [4, 0]), (("hs_rather", 1), [4, 0]))
        self.expect(
            house(THREE_HOLD, [(0, 4), (1, 5), (2, 3)]),
            (("hs_rather", 0), [3, 3]),
            (("hs_rather", 1), [0, 0]),
            (("hs_rather", 2), [3, 3]),
        )
        self.expect(house(LONG_WAY, LONG_WAY_PAIRS), (("hs_rather", 0), [2, 2]))
        self.expect(house(MIDDLE_HOLDS, [(0, 1)]), (("hs_rather", 0), [2, 1]))
        self.expect([("hs_start", 0)], (("hs_rather", 0), [0, 0]))

    def test_the_pairs_stay_as_they_are(self):
        self.expect(
            house(TWO_HOLD, [(0, 2)]),
            (("hs_rather", 1), [3, 1]),
            (("hs_all",), [1, 3, 0, 1, 0, 0, 0]),
            (("hs_state",), [4, 5, 0]),
        )

    def test_no_such_pairing(self):
        for place in (2, 3, 2147483648, TOP):
            self.refused(house(TWO_HOLD, [(0, 2)]), 4, ("hs_rather", place), -2)
        for lists in (RING_OF_THREE, NONE_OF_SIX):
            self.refused(house(lists), len(lists), ("hs_rather", 0), -2)
        self.refused([("hs_start", 0)], 0, ("hs_rather", 1), -2)


class With(HouseCase):
    def test_with_whom(self):
        self.expect(
            house(TWO_HOLD, [(0, 3), (1, 2)]),
            *[(("hs_with", student), [3 - student]) for student in range(4)],
        )
        self.expect(house(ALL_OTHERS, [(5, 0)]), (("hs_with", 5), [0]), (("hs_with", 0), [5]))

    def test_who_is_alone(self):
        self.refused(house(TWO_HOLD, [(0, 2)]), 4, ("hs_with", 1), -6)
        self.refused([("hs_start", 1)], 1, ("hs_with", 0), -6)

    def test_who_is_not_there(self):
        for absent in (4, 5, 6, 2147483648, TOP):
            self.refused(house(TWO_HOLD, [(0, 2)]), 4, ("hs_with", absent), -2)
        self.refused([("hs_start", 0)], 0, ("hs_with", 0), -2)
        self.refused(house(ALL_OTHERS, [(5, 0)]), 6, ("hs_with", 6), -2)


class Look(HouseCase):
    def test_each_one_more_than_the_number_and_0_behind_the_last(self):
        self.expect(
            house(LONG_WAY),
            (("hs_look", 0), [5, 5, 4, 3, 6, 2]),
            (("hs_look", 5), [5, 4, 5, 2, 3, 1]),
            (wish(0, [3]), [5, 0]),
            (("hs_look", 0), [1, 4, 0, 0, 0, 0]),
            (wish(0, []), [1, 0]),
            (("hs_look", 0), [0, 0, 0, 0, 0, 0]),
            (("hs_look", 1), [5, 1, 4, 3, 6, 5]),
        )

    def test_who_would_not_share_stands_on_it_too(self):
        self.expect(house([[2, 1], [], []]), (("hs_look", 0), [2, 3, 2, 0, 0, 0]))

    def test_after_moves(self):
        self.expect(
            house([[1], []]),
            (come([1, 0]), [2]),
            (("hs_look", 0), [2, 2, 3, 0, 0, 0]),
            (("hs_look", 1), [1, 3, 0, 0, 0, 0]),
            (("hs_look", 2), [2, 2, 1, 0, 0, 0]),
            (("hs_away",), [2, 0]),
            (("hs_look", 0), [1, 2, 0, 0, 0, 0]),
            (("hs_look", 1), [0, 0, 0, 0, 0, 0]),
            (("hs_look", 2), [-2]),
        )

    def test_a_refused_wish_leaves_the_list(self):
        self.expect(
            house(TWO_HOLD),
            (("hs_wish", 0, 2, [1, 0, 0, 0, 0]), [-22]),
            (("hs_wish", 0, 6, [1, 2, 3, 0, 0]), [-22]),
            (("hs_look", 0), [2, 3, 4, 0, 0, 0]),
        )

    def test_who_is_not_there(self):
        for absent in (4, 5, 6, 2147483648, TOP):
            self.refused(house(TWO_HOLD, [(0, 2)]), 4, ("hs_look", absent), -2)
        self.refused([("hs_start", 0)], 0, ("hs_look", 0), -2)
        self.refused(house(ALL_OTHERS, [(5, 0)]), 6, ("hs_look", 6), -2)


class All(HouseCase):
    def test_the_pairs_as_told_and_how_many(self):
        self.expect(house(TWO_HOLD), (("hs_all",), [0, 0, 0, 0, 0, 0, 0]))
        self.expect(house(TWO_HOLD, [(0, 3)]), (("hs_all",), [1, 4, 0, 0, 1, 0, 0]))
        self.expect(house(LONG_WAY, LONG_WAY_PAIRS), (("hs_all",), [3, 6, 3, 2, 5, 4, 1]))
        self.expect([("hs_start", 0)], (("hs_all",), [0, 0, 0, 0, 0, 0, 0]))
        self.expect([("hs_start", 6)], (("hs_all",), [0, 0, 0, 0, 0, 0, 0]))

    def test_after_each_kind_of_change(self):
        self.expect(
            house(TWO_HOLD, [(0, 2), (1, 3)]),
            (("hs_part", 2), [0]),
            (("hs_all",), [1, 0, 4, 0, 2, 0, 0]),
            (("hs_break", 3, 0), [1, 2]),
            (("hs_all",), [1, 4, 0, 0, 1, 0, 0]),
            (("hs_step",), [0, 1, 2]),
            (("hs_all",), [2, 4, 3, 2, 1, 0, 0]),
            (("hs_take", 0), [2, 3, 4, 1, 2, 0, 0]),
            (("hs_all",), [2, 3, 4, 1, 2, 0, 0]),
            (wish(2, []), [2, 1]),
            (("hs_all",), [1, 0, 4, 0, 2, 0, 0]),
            (come([0]), [4]),
            (("hs_all",), [1, 0, 4, 0, 2, 0, 0]),
            (("hs_settle",), [1, 4, 0, 0, 1, 0, 0]),
        )


if __name__ == "__main__":
    unittest.main()
