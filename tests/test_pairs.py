"""Point 3: hs_pair, hs_part, hs_break."""

import unittest

from helper import ALL_OTHERS, HouseCase, LONG_WAY, LONG_WAY_PAIRS, RING_OF_THREE, TWO_HOLD, house


class Pair(HouseCase):
    def test_answers_how_many_pairs_there_are(self):
        self.expect(
            house(ALL_OTHERS),
            (("hs_pair", 0, 5), [1]),
            (("hs_pair", 4, 1), [2]),
            (("hs_pair", 2, 3), [3]),
            (("hs_votes", [6, 5, 4, 3, 2, 1]), [0, 0, 6]),
        )

    def test_who_would_not_share(self):
        before = house([[1, 2], [2], [], [0]], [])
        for one, other in ((0, 1), (1, 0), (1, 2), (2, 0), (0, 3), (2, 3)):
            self.refused(before, 4, ("hs_pair", one, other), -33)

    def test_oneself(self):
        for student in range(4):
            self.refused(house(TWO_HOLD, [(0, 2)]), 4, ("hs_pair", student, student), -33)

    def test_one_of_them_is_paired(self):
        before = house(TWO_HOLD, [(0, 2)])
        for one, other in ((0, 2), (2, 0), (0, 3), (3, 0), (1, 2), (2, 1)):
            self.refused(before, 4, ("hs_pair", one, other), -16)

    def test_not_sharing_is_told_before_being_paired(self):
        before = house(TWO_HOLD, [(0, 2), (1, 3)])
        self.refused(before, 4, ("hs_pair", 0, 1), -33)
        self.refused(before, 4, ("hs_pair", 3, 2), -33)


class Part(HouseCase):
    def test_answers_with_whom_it_was(self):
        before = house(TWO_HOLD, [(0, 2), (1, 3)])
        for student, mate in ((0, 2), (1, 3), (2, 0), (3, 1)):
            self.expect(
                before,
                (("hs_part", student), [mate]),
                (("hs_part", student), [-6]),
                (("hs_part", mate), [-6]),
                (("hs_pair", student, mate), [2]),
            )

    def test_the_other_pairs_stay(self):
        self.expect(
            house(LONG_WAY, LONG_WAY_PAIRS),
            (("hs_part", 2), [1]),
            (("hs_votes", [6, 0, 0, 5, 4, 1]), [0, 0, 7]),
        )

    def test_who_is_alone(self):
        before = house(TWO_HOLD, [(0, 2)])
        self.refused(before, 4, ("hs_part", 1), -6)
        self.refused(before, 4, ("hs_part", 3), -6)


class Break(HouseCase):
    def test_two_who_are_alone(self):
        self.expect(
            house(TWO_HOLD),
            (("hs_break", 2, 0), [1, 2]),
            (("hs_votes", [3, 0, 1, 0, 0, 0]), [0, 0, 2]),
        )

    def test_those_they_had_are_alone(self):
        self.expect(
            house([[2, 1], [0], [0, 3], [2]], [(0, 1), (2, 3)]),
            (("hs_break", 0, 2), [1, 0]),
            (("hs_part", 1), [-6]),
            (("hs_part", 3), [-6]),
            (("hs_part", 0), [2]),
        )

    def test_round_and_round(self):
        self.expect(
            house(RING_OF_THREE, [(0, 1)]),
            (("hs_break", 1, 2), [1, 1]),
            (("hs_break", 0, 2), [1, 1]),
            (("hs_break", 0, 1), [1, 1]),
            (("hs_votes", [2, 1, 0, 0, 0, 0]), [0, 0, 1]),
        )

    def test_one_would_rather_keep_whom_they_have(self):
        before = house(RING_OF_THREE, [(0, 1)])
        self.refused(before, 3, ("hs_break", 0, 2), -33)
        self.refused(before, 3, ("hs_break", 2, 0), -33)

    def test_who_are_paired_with_each_other(self):
        before = house(TWO_HOLD, [(0, 3)])
        self.refused(before, 4, ("hs_break", 0, 3), -33)
        self.refused(before, 4, ("hs_break", 3, 0), -33)

    def test_who_would_not_share(self):
        before = house([[1], [], [0, 1]])
        for one, other in ((0, 1), (1, 0), (0, 2), (2, 1)):
            self.refused(before, 3, ("hs_break", one, other), -33)

    def test_oneself(self):
        for student in range(4):
            self.refused(house(TWO_HOLD, [(0, 3)]), 4, ("hs_break", student, student), -33)


if __name__ == "__main__":
    unittest.main()
