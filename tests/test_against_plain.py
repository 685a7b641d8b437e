"""Many lines of calls, each answer compared with that of a house which goes by the document's words."""

import random
import unittest

from helper import NAMES, PlainHouse, TOP, run

LINES = 400
CALLS = 60
# How often each call comes, by its number; those that take the plain house long come seldom.
WEIGHTS = [0.3, 8, 2, 1, 6, 2, 5, 3, 1, 2, 1, 1, 2, 3, 1, 1, 1, 1, 1, 0.3, 1, 1, 2, 2, 1, 1, 2, 1, 8, 6, 2]
NO_STUDENTS = [6, 7, 2147483648, TOP]


def some_student(chance, count):
    """Mostly one who is there."""
    if count and chance.random() < 0.9:
        return chance.randrange(count)
    return chance.choice([count, count + 1] + NO_STUDENTS)


def some_list(chance, others):
    """How many, and a row of five that begins, mostly, with so many others."""
    chance.shuffle(others)
    wanted = others[:chance.choice([0, 1, 2, 3, 4, 5, 5, 5, 5])]
    count = len(wanted)
    row = wanted + [chance.choice([0, 1, 2, 3, 4, 5, TOP]) for place in range(5 - count)]
    if chance.random() < 0.1:
        count = chance.choice([0, 1, 2, 3, 4, 5, 6, 7, TOP])
    return count, row


def some_two(chance, plain):
    """Often two who would break it."""
    breakers = plain.breakers(plain.pairs)
    if breakers and chance.random() < 0.6:
        return chance.sample(chance.choice(breakers), 2)
    return [some_student(chance, len(plain.lists)), some_student(chance, len(plain.lists))]


def some_row(chance, plain):
    """Mostly a pairing as told."""
    row = plain.told(chance.choice(plain.every_pairing()))
    for student in range(6):
        if student >= len(plain.lists):
            row[student] = chance.choice([0, 1, 7, TOP])
        elif row[student] == 0 and chance.random() < 0.2:
            row[student] = student + 1
    if chance.random() < 0.2:
        row[chance.randrange(6)] = chance.choice([0, 1, 2, 3, 4, 5] + NO_STUDENTS)
    return row


def some_call(chance, plain):
    """Any call, with numbers that suit the house or don't."""
    count = len(plain.lists)
    name = chance.choices(NAMES, weights=WEIGHTS)[0]
    if name == "hs_start":
        return (name, chance.choice([0, 1, 2, 3, 4, 5, 6, 6, 6, 7, TOP]))
    if name == "hs_wish":
        student = some_student(chance, count)
        return (name, student, *some_list(chance, [other for other in range(count) if other != student]))
    if name == "hs_in":
        return (name, *some_list(chance, list(range(count))))
    if name in ("hs_pair", "hs_break"):
        return (name, *some_two(chance, plain))
    if name in ("hs_part", "hs_best", "hs_with", "hs_look"):
        return (name, some_student(chance, count))
    if name in ("hs_take", "hs_nth", "hs_rather"):
        return (name, chance.choice([0, 0, 0, 1, 1, 2, 3, 4, TOP]))
    if name == "hs_votes":
        return (name, some_row(chance, plain))
    return (name,)


def full_lists(chance, count):
    """Wishes of everybody for all others, in any order."""
    calls = []
    for student in range(count):
        others = [other for other in range(count) if other != student]
        chance.shuffle(others)
        calls.append(("hs_wish", student, len(others), others + [0] * (5 - len(others))))
    return calls


class AgainstPlain(unittest.TestCase):
    def compare(self, first_calls, chance):
        plain = PlainHouse()
        calls = list(first_calls)
        expected = [plain.answer(call) for call in calls]
        for turn in range(CALLS):
            call = some_call(chance, plain)
            calls.append(call)
            expected.append(plain.answer(call))
        for place, answer in enumerate(run(calls)):
            self.assertEqual(answer, expected[place], calls[:place + 1])

    def test_any_calls(self):
        for seed in range(LINES):
            chance = random.Random(seed)
            self.compare([("hs_start", chance.randrange(7))], chance)

    def test_calls_behind_full_lists(self):
        for seed in range(LINES // 2):
            chance = random.Random(1000 + seed)
            count = chance.choice([4, 5, 6, 6])
            self.compare([("hs_start", count)] + full_lists(chance, count), chance)


if __name__ == "__main__":
    unittest.main()
