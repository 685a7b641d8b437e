"""Of point 5 hs_votes and hs_out; of point 6 hs_most."""

import unittest

from helper import ALL_OTHERS, HouseCase, LONG_WAY, LONG_WAY_PAIRS, RING_OF_THREE, TOP, TWO_HOLD, house


class Votes(HouseCase):
    def test_for_against_and_breakers(self):
        self.expect(
            house(TWO_HOLD, [(0, 2), (1, 3)]),
            (("hs_votes", [4, 3, 2, 1, 0, 0]), [2, 2, 0]),
            (("hs_votes", [3, 0, 1, 0, 0, 0]), [0, 2, 2]),
            (("hs_votes", [0, 0, 0, 0, 0, 0]), [0, 4, 4]),
            (("hs_votes", [0, 3, 2, 0, 0, 0]), [1, 3, 2]),
        )
        self.expect(
            house(RING_OF_THREE, [(0, 1)]),
            (("hs_votes", [0, 3, 2, 0, 0, 0]), [2, 1, 1]),
            (("hs_votes", [3, 0, 1, 0, 0, 0]), [1, 2, 1]),
        )

    def test_who_is_as_in_both_does_not_vote(self):
        self.expect(
            house(TWO_HOLD, [(0, 2), (1, 3)]),
            (("hs_votes", [3, 4, 1, 2, 0, 0]), [0, 0, 0]),
            (("hs_votes", [0, 4, 0, 2, 0, 0]), [0, 2, 2]),
        )

    def test_themself_is_alone_too(self):
        self.expect(
            house(TWO_HOLD, [(0, 2), (1, 3)]),
            (("hs_votes", [3, 2, 1, 4, 0, 0]), [0, 2, 2]),
            (("hs_votes", [1, 2, 3, 4, 0, 0]), [0, 4, 4]),
            (("hs_votes", [1, 4, 0, 2, 0, 0]), [0, 2, 2]),
        )

    def test_of_students_who_are_not_there_nothing_is_looked_at(self):
        self.expect(
            house(TWO_HOLD),
            (("hs_votes", [3, 4, 1, 2, 1, TOP]), [4, 0, 0]),
            (("hs_votes", [3, 4, 1, 2, 6, 5]), [4, 0, 0]),
        )

    def test_what_is_no_pairing(self):
        before = house(TWO_HOLD, [(0, 2)])
        for row in (
            [3, 0, 0, 0, 0, 0], [0, 0, 1, 0, 0, 0], [3, 4, 1, 0, 0, 0], [3, 4, 1, 1, 0, 0], [3, 3, 1, 0, 0, 0],
            [3, 0, 2, 0, 0, 0], [4, 0, 0, 3, 0, 0],
        ):
            self.refused(before, 4, ("hs_votes", row), -22)

    def test_who_would_not_share(self):
        self.refused(house(TWO_HOLD, [(0, 2)]), 4, ("hs_votes", [2, 1, 0, 0, 0, 0]), -22)
        self.refused(house([[1], []]), 2, ("hs_votes", [2, 1, 0, 0, 0, 0]), -22)
        self.refused(house([[], [0]]), 2, ("hs_votes", [2, 1, 0, 0, 0, 0]), -22)

    def test_who_is_not_there(self):
        before = house(TWO_HOLD, [(0, 2)])
        for told in (5, 6, 7, 2147483648, TOP):
            self.refused(before, 4, ("hs_votes", [told, 0, 0, 0, 1, 1]), -22)
            self.refused(before, 4, ("hs_votes", [3, 0, 1, told, 4, 4]), -22)
        self.refused(house(LONG_WAY, LONG_WAY_PAIRS), 6, ("hs_votes", [7, 0, 0, 0, 0, 0]), -22)


class Out(HouseCase):
    def test_the_first_and_how_many(self):
        self.expect(house([[1], [0]]), (("hs_out",), [1, 2, 1, 0, 0, 0, 0]))
        self.expect(house([[], [2], [1]]), (("hs_out",), [1, 0, 3, 2, 0, 0, 0]))
        self.expect(house(TWO_HOLD), (("hs_out",), [6, 0, 3, 2, 0, 0, 0]))
        self.expect(house(LONG_WAY, LONG_WAY_PAIRS), (("hs_out",), [3, 3, 4, 1, 2, 6, 5]))

    def test_each_is_voted_out_where_nothing_holds(self):
        self.expect(house(RING_OF_THREE), (("hs_out",), [3, 0, 3, 2, 0, 0, 0]))
        self.expect(house(RING_OF_THREE, [(0, 1)]), (("hs_out",), [1, 0, 3, 2, 0, 0, 0]))
        self.expect(house(RING_OF_THREE, [(1, 2)]), (("hs_out",), [1, 3, 0, 1, 0, 0, 0]))
        self.expect(house(RING_OF_THREE, [(0, 2)]), (("hs_out",), [1, 2, 1, 0, 0, 0, 0]))

    def test_none(self):
        nothing = [0, 0, 0, 0, 0, 0, 0]
        self.expect([("hs_start", 6)], (("hs_out",), nothing))
        self.expect(house(TWO_HOLD, [(0, 2), (1, 3)]), (("hs_out",), nothing))
        self.expect(house(TWO_HOLD, [(0, 3), (1, 2)]), (("hs_out",), nothing))

    def test_as_many_for_as_against_is_not_voted_out(self):
        self.expect(
            house([[1, 2], [0], [0]], [(0, 2)]),
            (("hs_votes", [2, 1, 0, 0, 0, 0]), [2, 1, 0]),
            (("hs_out",), [1, 2, 1, 0, 0, 0, 0]),
        )
        self.expect(
            house([[1, 2], [0, 3], [0], [1]], [(0, 2), (1, 3)]),
            (("hs_votes", [2, 1, 0, 0, 0, 0]), [2, 2, 0]),
            (("hs_holds",), [0]),
            (("hs_out",), [0, 0, 0, 0, 0, 0, 0]),
        )


class Most(HouseCase):
    def test_the_pairing_told_with_the_most(self):
        self.expect(house(ALL_OTHERS), (("hs_most",), [3, 2, 1, 4, 3, 6, 5]))
        self.expect(house(TWO_HOLD), (("hs_most",), [2, 3, 4, 1, 2, 0, 0]))

    def test_the_least_one_is_alone_if_that_costs_no_pair(self):
        self.expect(house(RING_OF_THREE), (("hs_most",), [1, 0, 3, 2, 0, 0, 0]))
        self.expect(house(ALL_OTHERS) + [("hs_away",)], (("hs_most",), [2, 0, 3, 2, 5, 4, 0]))

    def test_the_least_one_with_whom_so_many_can_be(self):
        self.expect(house([[3, 2, 1], [0], [0], [0]]), (("hs_most",), [1, 2, 1, 0, 0, 0, 0]))
        self.expect(house([[1, 2], [0, 2], [0, 1, 3], [2]]), (("hs_most",), [2, 2, 1, 4, 3, 0, 0]))
        self.expect(house([[1, 2], [0, 2, 3], [0, 1], [1]]), (("hs_most",), [2, 3, 4, 1, 2, 0, 0]))

    def test_it_does_not_depend_on_the_pairs_as_they_are(self):
        self.expect(
            house([[1], [0, 2], [1, 3], [2]], [(1, 2)]),
            (("hs_most",), [2, 2, 1, 4, 3, 0, 0]),
            (("hs_votes", [0, 3, 2, 0, 0, 0]), [0, 0, 1]),
        )

    def test_nobody_would_share(self):
        self.expect(house([[1], [2], [3], [0]]), (("hs_most",), [0, 0, 0, 0, 0, 0, 0]))
        self.expect([("hs_start", 1)], (("hs_most",), [0, 0, 0, 0, 0, 0, 0]))


if __name__ == "__main__":
    unittest.main()
