"""Point 1, and the line ahead of it: hs_start."""

import unittest

from helper import ALL_OTHERS, HouseCase, LONG_WAY, LONG_WAY_PAIRS, TOP, TWO_HOLD, come, house, run, wish


class Start(HouseCase):
    def test_zero_to_six_students(self):
        for number in range(7):
            self.assertEqual(run([("hs_start", number)]), [[0]])

    def test_so_many_students_are_there(self):
        for number in range(1, 7):
            self.expect(
                [("hs_start", number)],
                (wish(number - 1, []), [0, 0]),
                (wish(number, []), [-2]),
                (("hs_away",), [number - 1, 0]),
            )

    def test_no_students(self):
        nothing = [0, 0, 0, 0, 0, 0]
        self.expect(
            [("hs_start", 0)],
            (("hs_wish", 0, 0, [0] * 5), [-2]),
            (("hs_away",), [-6]),
            (("hs_pair", 0, 1), [-2]),
            (("hs_part", 0), [-2]),
            (("hs_break", 0, 1), [-2]),
            (("hs_step",), [-17]),
            (("hs_settle",), [-17]),
            (("hs_holds",), [1]),
            (("hs_steps",), [0]),
            (("hs_nth", 0), [-2]),
            (("hs_votes", [TOP] * 6), [0, 0, 0]),
            (("hs_out",), [0] + nothing),
            (("hs_most",), [0] + nothing),
            (("hs_take", 0), [0] + nothing),
            (("hs_take", 1), [-2]),
            (("hs_back",), [0]),
            (("hs_lost",), [0, 0]),
            (("hs_why",), [0, 0]),
            (("hs_may",), [0, 0]),
            (("hs_good",), [1, 1, 1]),
            (("hs_rings",), [0] + nothing),
            (("hs_alone",), [0, 0]),
            (("hs_best", 0), [-2]),
            (("hs_rather", 0), [0, 0]),
            (("hs_rather", 1), [-2]),
            (("hs_breakers",), [0, 0, 0]),
            (("hs_with", 0), [-2]),
            (("hs_look", 0), [-2]),
            (("hs_all",), [0] + nothing),
            (("hs_state",), [0, 0, 1]),
            (come([]), [0]),
            (("hs_state",), [1, 1, 0]),
        )

    def test_lists_have_nobody_and_nobody_is_paired(self):
        self.expect(
            [("hs_start", 6)],
            (("hs_votes", [0] * 6), [0, 0, 0]),
            (("hs_votes", [2, 1, 0, 0, 0, 0]), [-22]),
            (("hs_most",), [0, 0, 0, 0, 0, 0, 0]),
            (("hs_all",), [0, 0, 0, 0, 0, 0, 0]),
            (("hs_state",), [6, 0, 0]),
            *[(("hs_look", student), [0, 0, 0, 0, 0, 0]) for student in range(6)],
            *[(("hs_part", student), [-6]) for student in range(6)],
            *[(wish(student, []), [0, 0]) for student in range(6)],
        )

    def test_above_six_is_refused(self):
        for number in (7, 8, 2147483648, TOP):
            self.assertEqual(run([("hs_start", number)]), [[-22]])

    def test_behind_a_refused_start_another_may_come(self):
        self.assertEqual(
            run([("hs_start", 7), ("hs_start", TOP), ("hs_start", 2), wish(1, [0])]),
            [[-22], [-22], [0], [0, 0]],
        )

    def test_a_refused_start_leaves_all_as_it_was(self):
        for number in (7, TOP):
            self.refused(house(LONG_WAY, LONG_WAY_PAIRS), 6, ("hs_start", number), -22)
            self.refused(house(TWO_HOLD, [(0, 2)]), 4, ("hs_start", number), -22)

    def test_a_second_start_begins_anew(self):
        self.expect(
            house(ALL_OTHERS, [(0, 1), (2, 3), (4, 5)]),
            (("hs_start", 4), [0]),
            (("hs_state",), [4, 0, 0]),
            (("hs_back",), [-2]),
            (("hs_votes", [0] * 6), [0, 0, 0]),
            (("hs_pair", 0, 1), [-33]),
            (("hs_part", 0), [-6]),
            (wish(0, [1]), [0, 0]),
            (wish(4, []), [-2]),
            (come([]), [4]),
        )


class NotThere(HouseCase):
    """-2 of a student that isn't there is looked at first."""

    def test_in_each_call_that_names_a_student(self):
        before = house(TWO_HOLD, [(0, 2)])
        for absent in (4, 5, 6, TOP):
            self.refused(before, 4, ("hs_wish", absent, TOP, [TOP] * 5), -2)
            self.refused(before, 4, ("hs_wish", absent, 0, [0] * 5), -2)
            for call in ("hs_part", "hs_best", "hs_with", "hs_look"):
                self.refused(before, 4, (call, absent), -2)
            for call in ("hs_pair", "hs_break"):
                self.refused(before, 4, (call, absent, 0), -2)
                self.refused(before, 4, (call, 0, absent), -2)
                self.refused(before, 4, (call, absent, absent), -2)


if __name__ == "__main__":
    unittest.main()
