"""Point 8, and of point 1 what changes are: hs_back, hs_again, hs_state."""

import random
import unittest

from helper import ALL_OTHERS, CHANGING, HouseCase, LONG_WAY, LONG_WAY_PAIRS, NAMES, RING_OF_THREE, TOP, TWO_HOLD
from helper import come, house, run, seen, wish

# One of each kind, and none of them refused.
EACH_KIND = [
    wish(0, [1, 2]), wish(1, [0, 2]), wish(2, [0, 1]), ("hs_pair", 1, 2), ("hs_break", 0, 1), ("hs_part", 0),
    ("hs_step",), ("hs_part", 1), ("hs_settle",), ("hs_take", 0), come([2, 0]), ("hs_pair", 2, 3), ("hs_away",),
]
ASKING = [
    ("hs_holds",), ("hs_steps",), ("hs_nth", 0), ("hs_votes", [0] * 6), ("hs_out",), ("hs_most",), ("hs_lost",),
    ("hs_why",), ("hs_may",), ("hs_good",), ("hs_rings",), ("hs_alone",), ("hs_best", 0), ("hs_rather", 0),
    ("hs_breakers",), ("hs_with", 0), ("hs_look", 0), ("hs_all",), ("hs_state",),
]
# Refused in a house of two who hold each other.
REFUSED = [
    ("hs_start", 7), ("hs_wish", 2, 0, [0] * 5), ("hs_wish", 0, 1, [0] * 5), ("hs_wish", 0, 6, [1] * 5),
    ("hs_in", 6, [0, 1, 0, 0, 0]), ("hs_in", 1, [2] * 5), ("hs_pair", 0, 2), ("hs_pair", 0, 0), ("hs_pair", 0, 1),
    ("hs_part", 2), ("hs_break", 0, TOP), ("hs_break", 0, 1), ("hs_step",), ("hs_settle",), ("hs_take", 1),
    ("hs_nth", 0), ("hs_votes", [1, 1, 0, 0, 0, 0]), ("hs_best", 2), ("hs_rather", 1), ("hs_with", 2), ("hs_look", 2),
]


def some_changes(count):
    """So many changes in a house of six, behind each of which it is another house than ahead of it."""
    return [wish(turn % 6, ALL_OTHERS[turn % 6][turn // 6:]) for turn in range(count)]


def lists_and_pairs(calls):
    """What the house is behind these calls, whatever changes there are."""
    return run(calls + seen(6)[1:])[len(calls):]


class Count(HouseCase):
    def test_each_kind_of_change_is_counted(self):
        self.assertEqual({call[0] for call in EACH_KIND}, set(CHANGING))
        calls = [("hs_start", 3)]
        for turn, call in enumerate(EACH_KIND):
            self.expect(calls, (("hs_state",), [4 if turn in (11, 12) else 3, turn, 0]))
            calls = calls + [call]
        self.expect(calls, (("hs_state",), [3, 13, 0]))

    def test_nothing_else_is(self):
        self.assertEqual({call[0] for call in ASKING}, set(NAMES[10:]) - {"hs_back", "hs_again"})
        before = house([[1], [0]])
        for call in ASKING:
            self.expect(before + [call], (("hs_state",), [2, 2, 0]))
        before = house([[1], [0]], [(0, 1)])
        for call in REFUSED:
            found = run(before + [call, ("hs_state",)])[-2:]
            self.assertLess(found[0][0], 0, call)
            self.assertEqual(found[1], [2, 3, 0], call)

    def test_a_change_after_which_all_is_the_same_is_one_too(self):
        self.expect(
            house(TWO_HOLD, [(0, 2), (1, 3)]),
            (wish(0, [2, 3]), [2, 2]),
            (("hs_take", 0), [2, 3, 4, 1, 2, 0, 0]),
            (("hs_state",), [4, 8, 0]),
            (("hs_back",), [7]),
            (("hs_back",), [6]),
            (("hs_all",), [2, 3, 4, 1, 2, 0, 0]),
            (("hs_back",), [5]),
            (("hs_all",), [1, 3, 0, 1, 0, 0, 0]),
        )

    def test_no_changes_at_first(self):
        for number in (0, 1, 6):
            before = [("hs_start", number)]
            self.expect(before, (("hs_state",), [number, 0, 0]))
            self.refused(before, number, ("hs_back",), -2)
            self.refused(before, number, ("hs_again",), -2)

    def test_a_settling_is_one_change_however_many_breaks_it_has(self):
        self.expect(
            house(LONG_WAY, LONG_WAY_PAIRS),
            (("hs_state",), [6, 9, 0]),
            (("hs_settle",), [4, 2, 1, 6, 5, 4, 3]),
            (("hs_state",), [6, 10, 0]),
            (("hs_back",), [9]),
            (("hs_all",), [3, 6, 3, 2, 5, 4, 1]),
            (("hs_again",), [0]),
            (("hs_all",), [3, 2, 1, 6, 5, 4, 3]),
        )


class Back(HouseCase):
    def test_one_back_and_again(self):
        self.expect(
            house([[1], [0]]),
            (("hs_pair", 0, 1), [1]),
            (("hs_back",), [2]),
            (("hs_state",), [2, 2, 1]),
            (("hs_all",), [0, 0, 0, 0, 0, 0, 0]),
            (("hs_again",), [0]),
            (("hs_state",), [2, 3, 0]),
            (("hs_all",), [1, 2, 1, 0, 0, 0, 0]),
            (("hs_again",), [-2]),
        )

    def test_a_wish_comes_back_with_the_pair_that_it_parted(self):
        self.expect(
            house(TWO_HOLD, [(0, 2), (1, 3)]),
            (wish(0, [3]), [2, 1]),
            (("hs_back",), [6]),
            (("hs_look", 0), [2, 3, 4, 0, 0, 0]),
            (("hs_all",), [2, 3, 4, 1, 2, 0, 0]),
            (("hs_again",), [0]),
            (("hs_look", 0), [1, 4, 0, 0, 0, 0]),
            (("hs_all",), [1, 0, 4, 0, 2, 0, 0]),
        )

    def test_over_moves_in_and_out(self):
        self.expect(
            house([[1], [0], []], [(0, 1)]),
            (come([2, 1]), [3]),
            (("hs_pair", 2, 3), [2]),
            (("hs_away",), [3, 3]),
            (("hs_away",), [2, 0]),
            (("hs_away",), [1, 1]),
            (("hs_state",), [1, 9, 0]),
            (("hs_back",), [8]),
            (("hs_back",), [7]),
            (("hs_state",), [3, 7, 2]),
            (("hs_all",), [1, 2, 1, 0, 0, 0, 0]),
            (("hs_back",), [6]),
            (("hs_state",), [4, 6, 3]),
            (("hs_all",), [2, 2, 1, 4, 3, 0, 0]),
            (("hs_look", 0), [2, 2, 4, 0, 0, 0]),
            (("hs_look", 2), [1, 4, 0, 0, 0, 0]),
            (("hs_look", 3), [2, 3, 2, 0, 0, 0]),
            (("hs_back",), [5]),
            (("hs_back",), [4]),
            (("hs_state",), [3, 4, 5]),
            (("hs_look", 0), [1, 2, 0, 0, 0, 0]),
            (("hs_look", 2), [0, 0, 0, 0, 0, 0]),
            (("hs_look", 3), [-2]),
            *[(("hs_again",), [left]) for left in (4, 3, 2, 1, 0, -2)],
            (("hs_state",), [1, 9, 0]),
            (("hs_look", 0), [0, 0, 0, 0, 0, 0]),
            (("hs_all",), [0, 0, 0, 0, 0, 0, 0]),
        )

    def test_every_kind_comes_back_as_it_was(self):
        start = [("hs_start", 3)]
        count = len(EACH_KIND)
        was = [lists_and_pairs(start + EACH_KIND[:done]) for done in range(count + 1)]
        for back in range(count + 1):
            calls = start + EACH_KIND + [("hs_back",)] * back
            self.assertEqual(lists_and_pairs(calls), was[count - back])
            for again in range(back + 1):
                calls = start + EACH_KIND + [("hs_back",)] * back + [("hs_again",)] * again
                self.assertEqual(lists_and_pairs(calls), was[count - back + again])
                self.assertEqual(run(calls + [("hs_state",)])[-1][1:], [count - back + again, back - again])

    def test_again_makes_no_other_way_than_the_change_did(self):
        self.expect(
            house(TWO_HOLD),
            (("hs_take", 1), [2, 4, 3, 2, 1, 0, 0]),
            (("hs_back",), [4]),
            (("hs_settle",), [2, 3, 4, 1, 2, 0, 0]),
            (("hs_back",), [4]),
            (("hs_again",), [0]),
            (("hs_all",), [2, 3, 4, 1, 2, 0, 0]),
        )


class TheLastTwenty(HouseCase):
    def all_back_and_again(self, count):
        start = [("hs_start", 6)]
        changes = some_changes(count)
        kept = min(count, 20)
        was = [lists_and_pairs(start + changes[:done]) for done in range(count + 1)]
        for done in range(count):
            self.assertNotEqual(was[done], was[done + 1])
        calls = start + changes
        self.expect(calls, (("hs_state",), [6, kept, 0]))
        for left in reversed(range(kept)):
            self.expect(calls, (("hs_back",), [left]), (("hs_state",), [6, left, kept - left]))
            calls = calls + [("hs_back",)]
            self.assertEqual(lists_and_pairs(calls), was[count - kept + left])
        self.refused(calls, 6, ("hs_back",), -2)
        for left in reversed(range(kept)):
            self.expect(calls, (("hs_again",), [left]), (("hs_state",), [6, kept - left, left]))
            calls = calls + [("hs_again",)]
            self.assertEqual(lists_and_pairs(calls), was[count - left])
        self.refused(calls, 6, ("hs_again",), -2)
        self.expect(calls, *[(("hs_back",), [left]) for left in reversed(range(kept))], (("hs_back",), [-2]))

    def test_one(self):
        self.all_back_and_again(1)

    def test_nineteen(self):
        self.all_back_and_again(19)

    def test_twenty(self):
        self.all_back_and_again(20)

    def test_twenty_one(self):
        self.all_back_and_again(21)

    def test_thirty(self):
        self.all_back_and_again(30)

    def test_how_many_can_be_taken_back_grows_to_twenty_and_no_further(self):
        calls = [("hs_start", 6)]
        for call in some_changes(30):
            calls += [call, ("hs_state",)]
        self.assertEqual(run(calls)[2::2], [[6, min(done, 20), 0] for done in range(1, 31)])

    def test_many_more(self):
        changes = [wish(turn % 6, ALL_OTHERS[turn % 6][:turn % 5]) for turn in range(950)]
        self.expect(
            [("hs_start", 6)] + changes,
            (("hs_state",), [6, 20, 0]),
            *[(("hs_back",), [left]) for left in reversed(range(20))],
            (("hs_back",), [-2]),
            (("hs_look", 929 % 6), [4] + [other + 1 for other in ALL_OTHERS[929 % 6][:4]] + [0]),
        )


class AnotherChange(HouseCase):
    def test_what_was_taken_back_can_not_be_done_again_then(self):
        before = house(TWO_HOLD, [(0, 2), (1, 3)])
        for back in range(1, 7):
            self.expect(
                before + [("hs_back",)] * back,
                (("hs_state",), [4, 6 - back, back]),
                (wish(3, [2]), [0 if back > 2 else 2, 1 if back == 1 else 0]),
                (("hs_state",), [4, 7 - back, 0]),
                (("hs_again",), [-2]),
                (("hs_back",), [6 - back]),
                (("hs_state",), [4, 6 - back, 1]),
            )

    def test_each_kind_of_change(self):
        start = [("hs_start", 3)]
        for turn, call in enumerate(EACH_KIND):
            calls = start + EACH_KIND[:turn] + [come([]), ("hs_back",)]
            self.expect(calls, (("hs_state",), [4 if turn in (11, 12) else 3, turn, 1]))
            self.expect(calls + [call], (("hs_again",), [-2]), (("hs_back",), [turn]))

    def test_the_same_change_again_is_another_one(self):
        self.expect(
            house([[1], [0]]),
            (("hs_pair", 0, 1), [1]),
            (("hs_back",), [2]),
            (("hs_back",), [1]),
            (wish(1, [0]), [0, 0]),
            (("hs_again",), [-2]),
            (("hs_state",), [2, 2, 0]),
        )

    def test_what_fell_out_of_the_last_twenty_does_not_come_back(self):
        self.expect(
            [("hs_start", 6)] + some_changes(25) + [("hs_back",)] * 5,
            (("hs_state",), [6, 15, 5]),
            (wish(0, []), [2, 0]),
            (("hs_state",), [6, 16, 0]),
            *[(("hs_back",), [left]) for left in reversed(range(16))],
            (("hs_back",), [-2]),
        )

    def test_what_was_taken_back_and_replaced_is_gone(self):
        self.expect(
            [("hs_start", 2)],
            (wish(0, [1]), [0, 0]),
            (("hs_back",), [0]),
            (wish(1, [0]), [0, 0]),
            (("hs_back",), [0]),
            (("hs_again",), [0]),
            (("hs_look", 0), [0, 0, 0, 0, 0, 0]),
            (("hs_look", 1), [1, 1, 0, 0, 0, 0]),
        )


class InBetween(HouseCase):
    BEFORE = house([[1], [0]], [(0, 1)]) + [("hs_part", 0), ("hs_pair", 0, 1), wish(0, []), ("hs_back",)]

    def test_a_call_that_asks_leaves_all_changes(self):
        for call in ASKING:
            self.expect(
                self.BEFORE + [call],
                (("hs_state",), [2, 5, 1]),
                (("hs_again",), [0]),
                (("hs_look", 0), [0, 0, 0, 0, 0, 0]),
                (("hs_all",), [0, 0, 0, 0, 0, 0, 0]),
            )

    def test_a_refused_call_leaves_all_changes(self):
        for call in REFUSED:
            code = run(self.BEFORE + [call])[-1][0]
            self.assertLess(code, 0, call)
            self.refused(self.BEFORE, 2, call, code)
            self.expect(self.BEFORE + [call], (("hs_state",), [2, 5, 1]), (("hs_again",), [0]), (("hs_again",), [-2]))

    def test_other_refusals(self):
        full = house(ALL_OTHERS, [(0, 1)]) + [("hs_back",)]
        self.refused(full, 6, come([]), -28)
        empty = [("hs_start", 1), ("hs_away",), come([]), ("hs_back",)]
        self.refused(empty, 0, ("hs_away",), -6)
        none_holds = house(RING_OF_THREE, [(0, 1)]) + [("hs_back",)]
        for call in ("hs_step", "hs_settle", "hs_steps", "hs_lost", "hs_alone"):
            self.refused(none_holds, 3, (call,), -33)
        self.refused(none_holds, 3, ("hs_break", 0, 0), -33)
        self.refused(none_holds, 3, ("hs_part", 2), -6)
        self.refused(none_holds, 3, ("hs_with", 2), -6)

    def test_a_start_leaves_no_changes(self):
        for number in (0, 2, 6):
            before = self.BEFORE + [("hs_start", number)]
            self.expect(before, (("hs_state",), [number, 0, 0]))
            self.refused(before, number, ("hs_back",), -2)
            self.refused(before, number, ("hs_again",), -2)
        self.expect(
            self.BEFORE + [("hs_start", 2)],
            (wish(1, [0]), [0, 0]),
            (("hs_state",), [2, 1, 0]),
            (("hs_back",), [0]),
            (("hs_back",), [-2]),
            (("hs_look", 1), [0, 0, 0, 0, 0, 0]),
            (("hs_again",), [0]),
            (("hs_look", 1), [1, 1, 0, 0, 0, 0]),
            (("hs_look", 0), [0, 0, 0, 0, 0, 0]),
        )

    def test_a_refused_start_leaves_them_all(self):
        for number in (7, 2147483648, TOP):
            self.refused(self.BEFORE, 2, ("hs_start", number), -22)


class ManyTurns(unittest.TestCase):
    def test_back_and_again_at_random(self):
        chance = random.Random(8)
        start = [("hs_start", 6)]
        for line in range(40):
            calls = list(start)
            done = [[]]
            undone = []
            for turn in range(80):
                kind = chance.choice(["change", "change", "hs_back", "hs_again"])
                if kind == "change":
                    student = chance.randrange(6)
                    calls.append(wish(student, chance.sample(ALL_OTHERS[student], chance.randrange(6))))
                    done = (done + [done[-1] + [calls[-1]]])[-21:]
                    undone = []
                else:
                    calls.append((kind,))
                    if kind == "hs_back" and len(done) > 1:
                        undone.append(done.pop())
                    elif kind == "hs_again" and undone:
                        done.append(undone.pop())
            self.assertEqual(run(calls + [("hs_state",)])[-1], [6, len(done) - 1, len(undone)])
            self.assertEqual(lists_and_pairs(calls), lists_and_pairs(start + done[-1]))


if __name__ == "__main__":
    unittest.main()
