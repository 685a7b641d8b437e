"""Of point 6 hs_rings."""

import itertools
import random
import unittest

from helper import HouseCase, MIDDLE_HOLDS, NONE_OF_SIX, RING_AND_FOURTH, RING_OF_THREE, TWO_HOLD, house, run


class Rings(HouseCase):
    def told(self, lists, answer, pairs=()):
        self.expect(house(lists, pairs), (("hs_rings",), answer))

    def test_rings_of_one(self):
        self.told([[]], [0, 1, 0, 0, 0, 0, 0])
        self.told([[], [], [], [], [], []], [0, 1, 2, 3, 4, 5, 6])
        self.told([[1], [2], [0]], [0, 1, 2, 3, 0, 0, 0])

    def test_nobody_is_there(self):
        self.told([], [0, 0, 0, 0, 0, 0, 0])

    def test_rings_of_two(self):
        self.told([[1], [0]], [0, 2, 1, 0, 0, 0, 0])
        self.told([[2, 1], [0], [0]], [0, 3, 2, 1, 0, 0, 0])
        self.told(MIDDLE_HOLDS, [0, 1, 3, 2, 4, 0, 0])
        self.told(TWO_HOLD, [0, 3, 4, 1, 2, 0, 0])

    def test_rings_of_three(self):
        self.told(RING_OF_THREE, [1, 2, 3, 1, 0, 0, 0])
        self.told([[2, 1], [0, 2], [1, 0]], [1, 3, 1, 2, 0, 0, 0])
        self.told(RING_AND_FOURTH, [1, 2, 3, 1, 4, 0, 0])
        self.told([[1, 2], [2, 0], [0, 1], [4], [3], []], [1, 2, 3, 1, 5, 4, 6])
        self.told([[1, 2], [2, 0], [0, 1], [4, 5], [5, 3], [3, 4]], [2, 2, 3, 1, 5, 6, 4])

    def test_of_rings_of_four_that_hold_two_of_two_come_first(self):
        # 0, 2, 3, 1 in a ring would hold as well, and the other two of two.
        self.told([[2, 1], [0, 3], [3, 0], [1, 2]], [0, 2, 1, 4, 3, 0, 0])

    def test_rings_of_five(self):
        self.told([[1, 4], [2, 0], [3, 1], [4, 2], [0, 3]], [1, 2, 3, 4, 5, 1, 0])
        self.told([[4, 1], [0, 2], [1, 3], [2, 4], [3, 0], []], [1, 5, 1, 2, 3, 4, 6])
        self.told([[2, 4, 5], [4, 3], [3, 0], [1, 2], [0, 1, 5], [0, 4]], [1, 3, 5, 4, 2, 1, 6])

    def test_rings_of_six(self):
        # Three of two hold as well, but 2 has the lesser one next to them in the ring.
        self.told([[4, 5], [5, 2], [1, 3], [2, 4], [3, 0], [0, 1]], [0, 5, 6, 2, 3, 4, 1])
        # Here three of two come first.
        self.told([[1, 5], [2, 0], [3, 1], [4, 2], [5, 3], [0, 4]], [0, 2, 1, 4, 3, 6, 5])

    def test_of_those_that_hold_the_first_has_the_lesser_one_next(self):
        self.told([[1, 3], [2, 0], [3, 1, 0], [0, 2], [0, 3]], [0, 2, 1, 4, 3, 5, 0])
        self.told(NONE_OF_SIX, [1, 1, 5, 4, 6, 3, 2])

    def test_rings_do_not_depend_on_the_pairs_as_they_are(self):
        self.told(RING_AND_FOURTH, [1, 2, 3, 1, 4, 0, 0], [(0, 3), (1, 2)])

    def test_an_odd_ring_stands_just_where_no_pairing_holds(self):
        chance = random.Random(20)
        for turn in range(400):
            count = chance.randrange(3, 7)
            lists = [
                chance.sample([other for other in range(count) if other != student], chance.randrange(2, count))
                for student in range(count)
            ]
            rings, lost = run(house(lists) + [("hs_rings",), ("hs_lost",)])[-2:]
            self.assertEqual(rings[0] > 0, lost == [-33], lists)

    def test_every_house_of_three_has_rings_that_hold(self):
        choices = []
        for student in range(3):
            others = [other for other in range(3) if other != student]
            choices.append([list(some) for count in range(3) for some in itertools.permutations(others, count)])
        for lists in itertools.product(*choices):
            rings = run(house(lists) + [("hs_rings",)])[-1]
            self.assertEqual(sorted(rings[1:]), [0, 0, 0, 1, 2, 3], lists)


if __name__ == "__main__":
    unittest.main()
