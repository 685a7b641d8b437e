"""The interface: how calls are handed in and answers given back, and long lists of calls."""

import contextlib
import io
import sys
import unittest

from helper import ALL_OTHERS, LONG_WAY, LONG_WAY_PAIRS, NAMES, NONE_OF_SIX, OUT_OF, PlainHouse
from helper import RING_OF_THREE, TOP, TWO_HOLD, TWO_STARS, decode, encode, house, run, wish
from studenthouse.house import answers

# Pairings of which many are voted out, but by few others.
SLOW_VOTES = [[1, 2, 3, 4, 5], [0, 3, 4, 5, 2], [0, 4, 3, 1, 5], [5, 0, 4, 2, 1], [3, 1, 5, 0, 2], [4, 1, 3, 2, 0]]
# Many rings suit all, of which few hold.
MANY_RINGS = [[4, 1, 5, 3, 2], [5, 4, 2, 0, 3], [0, 3, 1, 5, 4], [1, 4, 0, 2, 5], [2, 5, 3, 1, 0], [3, 2, 0, 4, 1]]


def every_call():
    """Calls of each name, refused and not."""
    calls = house(TWO_HOLD, [(0, 2)])
    calls += [
        ("hs_in", 1, [0, 0, 0, 0, 0]), ("hs_in", TOP, [0] * 5), ("hs_away",), ("hs_pair", 1, 3), ("hs_pair", 1, 3),
        ("hs_part", 1), ("hs_part", 1), ("hs_break", 2, 1), ("hs_break", 2, 1), ("hs_holds",), ("hs_steps",),
        ("hs_nth", 0), ("hs_nth", TOP), ("hs_step",), ("hs_part", 0), ("hs_part", 1), ("hs_settle",), ("hs_settle",),
        ("hs_take", 1), ("hs_take", 2), ("hs_votes", [0] * 6), ("hs_votes", [TOP] * 6), ("hs_out",), ("hs_most",),
        ("hs_lost",), ("hs_why",), ("hs_may",), ("hs_good",), ("hs_rings",), ("hs_alone",), ("hs_best", 0),
        ("hs_best", TOP), ("hs_rather", 1), ("hs_rather", 2), ("hs_breakers",), ("hs_with", 0), ("hs_with", 4),
        ("hs_look", 0), ("hs_look", 4), ("hs_all",), ("hs_back",), ("hs_back",), ("hs_state",), ("hs_again",),
        ("hs_state",), ("hs_again",), ("hs_again",),
    ]
    calls += house(RING_OF_THREE) + [
        ("hs_lost",), ("hs_rings",), ("hs_alone",), ("hs_best", 0), ("hs_with", 0), ("hs_start", 1), ("hs_back",),
    ]
    return calls


class Form(unittest.TestCase):
    def test_numbers_as_they_are_handed_in_and_given_back(self):
        self.assertEqual(answers([0, 0]), [1, 0])
        self.assertEqual(answers([0, 7]), [1, -22])
        rows = (
            ([0, 2], [1, 0]),
            ([1, 0, 1, 5, 1, 0, 0, 0, 0], [2, 0, 0]),
            ([2, 2, 5, 1, 0, 9, 9, 9], [1, 2]),
            ([1, 1, 1, 5, 0, 0, 0, 0, 0], [2, 1, 0]),
            ([10], [1, 0]),
            ([11], [1, 1]),
            ([12, 0], [2, 0, 1]),
            ([13, 6, 2, 1, 0, 9, 9, 9], [3, 2, 0, 0]),
            ([14], [7, 2, 2, 1, 0, 0, 0, 0]),
            ([15], [7, 1, 2, 1, 0, 0, 0, 0]),
            ([6, 1, 0], [2, 1, 0]),
            ([5, 1], [1, 0]),
            ([4, 0, 1], [1, 1]),
            ([5, 0], [1, 1]),
            ([7], [3, 0, 0, 1]),
            ([8], [1, -17]),
            ([5, 0], [1, 1]),
            ([8], [7, 1, 2, 1, 0, 0, 0, 0]),
            ([9, 0], [7, 1, 2, 1, 0, 0, 0, 0]),
            ([9, 4294967295], [1, -2]),
            ([16], [2, 0, 1]),
            ([17], [2, 1, 0]),
            ([18], [2, 2, 6]),
            ([19], [3, 1, 1, 3]),
            ([20], [7, 0, 2, 1, 3, 0, 0, 0]),
            ([21], [2, 1, 4]),
            ([22, 2], [1, 2]),
            ([22, 4294967295], [1, -2]),
            ([23, 0], [2, 0, 0]),
            ([23, 4294967295], [1, -2]),
            ([24], [3, 0, 0, 0]),
            ([25, 1], [1, 0]),
            ([25, 2], [1, -6]),
            ([25, 3], [1, -2]),
            ([26, 2], [6, 2, 2, 1, 0, 0, 0]),
            ([26, 3], [1, -2]),
            ([27], [7, 1, 2, 1, 0, 0, 0, 0]),
            ([30], [3, 3, 11, 0]),
            ([3], [2, 2, 0]),
            ([28], [1, 11]),
            ([28], [1, 10]),
            ([30], [3, 3, 10, 2]),
            ([29], [1, 1]),
            ([29], [1, 0]),
            ([29], [1, -2]),
            ([30], [3, 2, 12, 0]),
        )
        calls = sum([call for call, answer in rows], [])
        self.assertEqual(answers(calls), sum([answer for call, answer in rows], []))

    def test_how_many_numbers_each_call_answers(self):
        calls = every_call()
        self.assertEqual(sorted({call[0] for call in calls}), sorted(NAMES))
        answered = {name: False for name in NAMES}
        for call, answer in zip(calls, run(calls), strict=True):
            if answer[0] < 0:
                self.assertEqual(len(answer), 1, call)
            else:
                self.assertEqual(len(answer), 1 + OUT_OF.get(call[0], 0), call)
                self.assertGreaterEqual(min(answer), 0, call)
                answered[call[0]] = True
        self.assertEqual([name for name in NAMES if not answered[name]], [])

    def test_it_gives_back_a_list_of_whole_numbers(self):
        given_back = answers(encode(every_call()))
        self.assertIs(type(given_back), list)
        self.assertEqual({type(number) for number in given_back}, {int})

    def test_what_is_handed_in_is_the_same_afterwards(self):
        calls = encode(every_call())
        before = list(calls)
        answers(calls)
        self.assertEqual(calls, before)

    def test_what_is_handed_in_is_not_changed_for_a_while_either(self):
        class Fixed(list):
            def refuse(self, *given):
                raise AssertionError("the list that was handed in is changed")

            __setitem__ = __delitem__ = __iadd__ = __imul__ = refuse
            append = extend = insert = pop = remove = clear = sort = reverse = refuse

        calls = encode(every_call())
        self.assertEqual(answers(Fixed(calls)), answers(calls))

    def test_nothing_is_kept_from_one_time_to_the_next(self):
        calls = encode(every_call())
        first = answers(calls)
        answers(encode(house(ALL_OTHERS, [(0, 1)])))
        self.assertEqual(answers(calls), first)
        first.append(5)
        self.assertEqual(answers(calls), first[:-1])

    def test_it_prints_nothing(self):
        printed = io.StringIO()
        with contextlib.redirect_stdout(printed), contextlib.redirect_stderr(printed):
            answers(encode(every_call()))
        self.assertEqual(printed.getvalue(), "")


class Long(unittest.TestCase):
    """Lists of a thousand calls."""

    def again_and_again(self, before, call):
        """The answer to a call that comes till there are a thousand, each time the same."""
        count = 1000 - len(before)
        found = run(before + [call] * count)[len(before):]
        self.assertEqual(found, [found[0]] * count)
        return found[0]

    def test_most_work_where_no_pairing_holds(self):
        before = house(NONE_OF_SIX)
        for call, answer in (
            (("hs_step",), [-33]), (("hs_settle",), [-33]), (("hs_steps",), [-33]), (("hs_nth", 0), [-33]),
            (("hs_take", 0), [-2]), (("hs_most",), [3, 2, 1, 4, 3, 6, 5]),
        ):
            self.assertEqual(self.again_and_again(before, call), answer)

    def test_most_work_where_a_pairing_holds(self):
        before = house(LONG_WAY, LONG_WAY_PAIRS)
        for call, answer in (
            (("hs_steps",), [4]), (("hs_nth", 3), [3, 4]), (("hs_nth", 4), [-2]),
            (("hs_out",), [3, 3, 4, 1, 2, 6, 5]), (("hs_take", 0), [3, 2, 1, 6, 5, 4, 3]),
        ):
            self.assertEqual(self.again_and_again(before, call), answer)

    def test_most_work_of_what_tells_of_all_pairings_and_sets(self):
        for lists, calls_and_answers in (
            (NONE_OF_SIX, (
                (("hs_good",), [0, 2, 76]), (("hs_rings",), [1, 1, 5, 4, 6, 3, 2]), (("hs_why",), [0, 0]),
                (("hs_may",), [0, 0]), (("hs_lost",), [-33]), (("hs_alone",), [-33]), (("hs_best", 5), [-33]),
                (("hs_rather", 0), [-2]), (("hs_breakers",), [15, 0, 1]),
            )),
            (ALL_OTHERS, (
                (("hs_good",), [1, 3, 76]), (("hs_rings",), [0, 2, 1, 4, 3, 6, 5]), (("hs_why",), [0, 0]),
                (("hs_lost",), [0, 3]), (("hs_alone",), [0, 0]), (("hs_best", 5), [4]), (("hs_rather", 0), [6, 0]),
            )),
            (SLOW_VOTES, ((("hs_good",), [0, 4, 76]),)),
            (MANY_RINGS, ((("hs_rings",), [0, 2, 1, 4, 3, 6, 5]),)),
            (TWO_STARS, ((("hs_why",), [2, 2]), (("hs_may",), [4, 60]))),
        ):
            for call, answer in calls_and_answers:
                self.assertEqual(self.again_and_again(house(lists), call), answer)

    def test_back_and_again_by_turns(self):
        calls = house(LONG_WAY, LONG_WAY_PAIRS) + [("hs_settle",)] + [("hs_back",), ("hs_again",)] * 494
        self.assertEqual(run(calls)[11:], [[9], [0]] * 494)

    def test_all_alone_is_voted_out_by_every_other(self):
        self.assertEqual(self.again_and_again(house(ALL_OTHERS), ("hs_out",)), [75, 0, 0, 0, 0, 6, 5])

    def test_settled_and_undone_again_and_again(self):
        undo = [("hs_part", 0), ("hs_part", 2), ("hs_part", 3)]
        calls = house(LONG_WAY) + ([("hs_settle",)] + undo) * 248
        found = run(calls)[7:]
        self.assertEqual(found, [[3, 2, 1, 6, 5, 4, 3], [1], [5], [4]] * 248)

    def test_a_thousand_wishes_are_nine_thousand_numbers(self):
        calls = [("hs_start", 6)]
        calls += [wish(turn % 6, ALL_OTHERS[turn % 6]) for turn in range(999)]
        numbers = encode(calls)
        self.assertEqual(len(numbers), 8993)
        self.assertEqual(decode(answers(numbers)), [[0]] + [[0, 0]] * 6 + [[5, 0]] * 993)

    def test_it_needs_few_calls_within_one_another(self):
        asked = [("hs_steps",), ("hs_out",), ("hs_most",), ("hs_take", 0), ("hs_good",), ("hs_rings",), ("hs_why",)]
        asked += [("hs_back",)]
        calls = encode((house(NONE_OF_SIX) + asked) * 66)
        expected = answers(calls)
        limit = sys.getrecursionlimit()
        depth = 0
        frame = sys._getframe()
        while frame is not None:
            depth += 1
            frame = frame.f_back
        sys.setrecursionlimit(depth + 50)
        try:
            found = answers(calls)
        finally:
            sys.setrecursionlimit(limit)
        self.assertEqual(found, expected)

    def test_a_thousand_mixed_calls(self):
        calls = (every_call() * 40)[:1000]
        plain = PlainHouse()
        self.assertEqual(run(calls), [plain.answer(call) for call in calls])


if __name__ == "__main__":
    unittest.main()
