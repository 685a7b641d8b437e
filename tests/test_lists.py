"""Point 2: hs_wish, hs_in, hs_away."""

import unittest

from helper import ALL_OTHERS, HouseCase, LONG_WAY, LONG_WAY_PAIRS, TOP, TWO_HOLD, come, house, wish


class Wish(HouseCase):
    def test_answers_how_many_were_on_the_list(self):
        self.expect(
            [("hs_start", 6)],
            (wish(0, [1, 2, 3]), [0, 0]),
            (wish(0, [5]), [3, 0]),
            (wish(0, [5, 4, 3, 2, 1]), [1, 0]),
            (wish(0, []), [5, 0]),
            (wish(0, []), [0, 0]),
        )

    def test_the_list_is_in_order_of_wishes(self):
        self.expect(
            house([[2, 1], [0], [0]]),
            (("hs_votes", [2, 1, 0, 0, 0, 0]), [2, 0, 1]),
            (("hs_votes", [3, 0, 1, 0, 0, 0]), [2, 0, 0]),
            (wish(0, [1, 2]), [2, 0]),
            (("hs_votes", [2, 1, 0, 0, 0, 0]), [2, 0, 0]),
            (("hs_votes", [3, 0, 1, 0, 0, 0]), [2, 0, 1]),
        )

    def test_only_the_first_n_of_the_row_count(self):
        self.expect(
            [("hs_start", 3), wish(1, [0]), wish(2, [0])],
            (("hs_wish", 0, 1, [1, 2, 2, 0, TOP]), [0, 0]),
            (("hs_pair", 0, 2), [-33]),
            (("hs_wish", 0, 0, [0, 0, 0, 0, 0]), [1, 0]),
            (("hs_pair", 0, 1), [-33]),
            (("hs_wish", 0, 2, [2, 1, 1, 1, 1]), [0, 0]),
            (("hs_pair", 0, 2), [1]),
        )

    def test_who_would_not_share_any_more_is_parted(self):
        self.expect(
            house(TWO_HOLD, [(0, 2), (1, 3)]),
            (wish(0, [3]), [2, 1]),
            (("hs_votes", [0, 4, 0, 2, 0, 0]), [0, 0, 1]),
            (("hs_part", 0), [-6]),
            (("hs_part", 2), [-6]),
            (wish(3, []), [2, 0]),
            (("hs_votes", [0] * 6), [0, 0, 1]),
        )

    def test_who_would_still_share_stays_paired(self):
        self.expect(
            house(TWO_HOLD, [(0, 2), (1, 3)]),
            (wish(0, [3, 2, 1]), [2, 2]),
            (wish(0, [2]), [3, 2]),
            (wish(2, [0]), [2, 2]),
            (("hs_part", 2), [0]),
        )

    def test_a_wish_again_for_a_parted_one_does_not_pair(self):
        self.expect(
            house(TWO_HOLD, [(0, 2)]),
            (wish(2, []), [2, 0]),
            (wish(2, [0, 1]), [0, 0]),
            (("hs_part", 0), [-6]),
        )

    def test_n_above_five(self):
        before = house(LONG_WAY, LONG_WAY_PAIRS)
        for count in (6, 7, 2147483648, TOP):
            self.refused(before, 6, ("hs_wish", 0, count, [1, 2, 3, 4, 5]), -22)

    def test_students_who_are_not_there(self):
        before = house(TWO_HOLD, [(0, 2)])
        for absent in (4, 5, 6, TOP):
            self.refused(before, 4, ("hs_wish", 0, 1, [absent, 1, 1, 1, 1]), -22)
            self.refused(before, 4, ("hs_wish", 0, 3, [1, 2, absent, 3, 3]), -22)

    def test_oneself(self):
        before = house(TWO_HOLD, [(0, 2)])
        for student in range(4):
            self.refused(before, 4, ("hs_wish", student, 1, [student, 0, 1, 2, 3]), -22)
        self.refused(before, 4, ("hs_wish", 3, 4, [0, 1, 2, 3, 0]), -22)

    def test_somebody_twice(self):
        before = house(LONG_WAY, LONG_WAY_PAIRS)
        self.refused(before, 6, ("hs_wish", 0, 2, [1, 1, 2, 3, 4]), -22)
        self.refused(before, 6, ("hs_wish", 0, 5, [1, 2, 3, 4, 1]), -22)

    def test_more_than_there_are_others(self):
        self.refused([("hs_start", 1)], 1, ("hs_wish", 0, 1, [0, 0, 0, 0, 0]), -22)
        self.refused([("hs_start", 3)], 3, ("hs_wish", 0, 3, [1, 2, 3, 4, 5]), -22)


class In(HouseCase):
    def test_six_move_in(self):
        self.expect(
            [("hs_start", 0)],
            (come([]), [0]),
            (come([0]), [1]),
            (come([1, 0]), [2]),
            (come([]), [3]),
            (come([3, 2, 1, 0]), [4]),
            (come([4, 3, 2, 1, 0]), [5]),
            (come([]), [-28]),
            (wish(0, []), [5, 0]),
            (wish(3, []), [2, 0]),
            (wish(5, []), [5, 0]),
        )

    def test_the_new_one_is_alone_and_the_others_stay_paired(self):
        self.expect(
            house(TWO_HOLD, [(0, 2), (1, 3)]),
            (come([0, 1, 2, 3]), [4]),
            (("hs_part", 4), [-6]),
            (("hs_votes", [3, 4, 1, 2, 0, 0]), [0, 0, 0]),
        )

    def test_the_new_one_is_last_on_every_other_list(self):
        self.expect(
            house([[1], [0], []]),
            (come([2, 0, 1]), [3]),
            (("hs_votes", [2, 1, 4, 3, 0, 0]), [4, 0, 0]),
            (("hs_votes", [4, 0, 0, 1, 0, 0]), [2, 0, 2]),
            (("hs_pair", 0, 3), [1]),
            (("hs_break", 0, 1), [1, 1]),
            (wish(0, []), [2, 0]),
            (wish(1, []), [2, 0]),
            (wish(2, []), [1, 0]),
            (wish(3, []), [3, 0]),
        )

    def test_the_new_one_has_the_list_that_is_told(self):
        self.expect(
            house([[], [], []]),
            (("hs_in", 2, [2, 0, 1, 1, TOP]), [3]),
            (("hs_pair", 1, 3), [-33]),
            (("hs_pair", 0, 3), [1]),
            (("hs_break", 3, 2), [1, 0]),
        )

    def test_refused_when_there_are_six(self):
        before = house(LONG_WAY, LONG_WAY_PAIRS)
        self.refused(before, 6, ("hs_in", 0, [0] * 5), -28)
        self.refused(before, 6, ("hs_in", 5, [0, 1, 2, 3, 4]), -28)
        self.refused(before, 6, ("hs_in", TOP, [TOP] * 5), -28)

    def test_wrong_lists(self):
        before = house(TWO_HOLD, [(0, 2)])
        for count in (6, 7, TOP):
            self.refused(before, 4, ("hs_in", count, [0, 1, 2, 3, 4]), -22)
            self.refused([("hs_start", 5)], 5, ("hs_in", count, [0, 1, 2, 3, 4]), -22)
        for other in (4, 5, 6, TOP):
            self.refused(before, 4, ("hs_in", 1, [other, 0, 0, 0, 0]), -22)
            self.refused(before, 4, ("hs_in", 5, [0, 1, 2, 3, other]), -22)
        self.refused(before, 4, ("hs_in", 2, [3, 3, 0, 0, 0]), -22)
        self.refused([("hs_start", 0)], 0, ("hs_in", 1, [0] * 5), -22)


class Away(HouseCase):
    def test_the_last_goes_away_alone(self):
        self.expect(
            house(TWO_HOLD, [(0, 2)]),
            (("hs_away",), [3, 0]),
            (("hs_votes", [3, 0, 1, 0, 0, 0]), [0, 0, 1]),
            (wish(3, []), [-2]),
        )

    def test_the_last_goes_away_while_paired(self):
        self.expect(
            house(TWO_HOLD, [(0, 2), (1, 3)]),
            (("hs_away",), [3, 2]),
            (("hs_part", 1), [-6]),
            (("hs_away",), [2, 1]),
            (("hs_part", 0), [-6]),
            (("hs_away",), [1, 0]),
            (("hs_away",), [0, 0]),
            (("hs_away",), [-6]),
        )

    def test_who_went_is_on_no_list(self):
        self.expect(
            house(ALL_OTHERS, [(0, 5)]),
            (("hs_away",), [5, 1]),
            *[(wish(student, []), [4, 0]) for student in range(5)],
        )

    def test_the_order_of_the_others_stays(self):
        self.expect(
            house([[3, 2, 1], [0], [0], [0]]),
            (("hs_away",), [3, 0]),
            (("hs_pair", 0, 1), [1]),
            (("hs_break", 0, 2), [1, 0]),
        )

    def test_who_moves_in_behind_is_another_one(self):
        self.expect(
            house([[2, 1], [0, 2], [1, 0]], [(1, 2)]),
            (("hs_away",), [2, 2]),
            (come([0]), [2]),
            (("hs_pair", 1, 2), [-33]),
            (("hs_pair", 0, 2), [1]),
            (("hs_break", 0, 1), [1, 0]),
        )

    def test_nobody_is_there(self):
        self.refused([("hs_start", 0)], 0, ("hs_away",), -6)
        self.refused([("hs_start", 1), ("hs_away",)], 0, ("hs_away",), -6)


if __name__ == "__main__":
    unittest.main()
