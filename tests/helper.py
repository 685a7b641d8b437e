"""What the tests share: calls by name, answers call by call, and a plain house to compare with."""

import itertools
import unittest

from studenthouse.house import answers

NAMES = [
    "hs_start", "hs_wish", "hs_in", "hs_away", "hs_pair", "hs_part", "hs_break", "hs_step", "hs_settle",
    "hs_take", "hs_holds", "hs_steps", "hs_nth", "hs_votes", "hs_out", "hs_most", "hs_lost", "hs_why", "hs_may",
    "hs_good", "hs_rings", "hs_alone", "hs_best", "hs_rather", "hs_breakers", "hs_with", "hs_look", "hs_all",
    "hs_back", "hs_again", "hs_state",
]
# Those that are changes, unless they are refused.
CHANGING = NAMES[1:10]
TOP = 4294967295
OUT_OF = {
    "hs_wish": 1, "hs_away": 1, "hs_break": 1, "hs_nth": 1, "hs_lost": 1, "hs_why": 1, "hs_may": 1, "hs_alone": 1,
    "hs_rather": 1, "hs_step": 2, "hs_votes": 2, "hs_good": 2, "hs_breakers": 2, "hs_state": 2, "hs_look": 5,
    "hs_settle": 6, "hs_take": 6, "hs_out": 6, "hs_most": 6, "hs_rings": 6, "hs_all": 6,
}

# Houses in which no pairing holds: each of three would rather have the next one.
RING_OF_THREE = [[1, 2], [2, 0], [0, 1]]
RING_AND_FOURTH = [[1, 2, 3], [2, 0, 3], [0, 1, 3], [0, 1, 2]]
# All of six would share, no pairing holds, and breaks lead to nearly every pairing.
NONE_OF_SIX = [[3, 2, 5, 4, 1], [4, 5, 2, 3, 0], [3, 1, 4, 5, 0], [5, 1, 4, 2, 0], [2, 1, 0, 3, 5], [2, 1, 3, 0, 4]]
# Two pairings hold: 0 with 2 and 1 with 3, or 0 with 3 and 1 with 2.
TWO_HOLD = [[2, 3], [3, 2], [1, 0], [0, 1]]
# Three pairings hold.
THREE_HOLD = [[3, 4, 5], [4, 5, 3], [5, 3, 4], [1, 2, 0], [2, 0, 1], [0, 1, 2]]
# One pairing holds, and from these pairs no fewer than four breaks lead to it.
LONG_WAY = [[4, 3, 2, 5, 1], [0, 3, 2, 5, 4], [1, 5, 4, 0, 3], [2, 1, 4, 0, 5], [2, 3, 1, 5, 0], [3, 4, 1, 2, 0]]
LONG_WAY_PAIRS = [(0, 5), (1, 2), (3, 4)]
# Two stars whose middles would share as well; what is alone may be so in many ways.
TWO_STARS = [[1, 4, 5], [0, 2, 3], [1], [1], [0], [0]]
# The two in the middle would rather have each other, so the one pairing that holds has one pair of two.
MIDDLE_HOLDS = [[1], [2, 0], [1, 3], [2]]
ALL_OTHERS = [[other for other in range(6) if other != student] for student in range(6)]


def encode(calls):
    """One list of whole numbers from calls like ("hs_wish", 0, 2, [1, 2, 0, 0, 0])."""
    numbers = []
    for call in calls:
        numbers.append(NAMES.index(call[0]))
        for given in call[1:]:
            if isinstance(given, list):
                numbers.append(len(given))
                numbers.extend(given)
            else:
                numbers.append(given)
    return numbers


def decode(given_back):
    """The answers, one list a call."""
    found = []
    at = 0
    while at < len(given_back):
        count = given_back[at]
        found.append(given_back[at + 1:at + 1 + count])
        at += 1 + count
    return found


def run(calls):
    """What the program answers to each of the calls."""
    return decode(answers(encode(calls)))


def wish(student, wanted):
    """A call of hs_wish; what stands behind the list's end is no student's number."""
    return ("hs_wish", student, len(wanted), wanted + [TOP] * (5 - len(wanted)))


def come(wanted):
    """A call of hs_in."""
    return ("hs_in", len(wanted), wanted + [TOP] * (5 - len(wanted)))


def house(lists, pairs=()):
    """The calls that make a house with these lists and pairs."""
    calls = [("hs_start", len(lists))]
    calls += [wish(student, wanted) for student, wanted in enumerate(lists)]
    calls += [("hs_pair", one, other) for one, other in pairs]
    return calls


def seen(number):
    """Calls that tell all lists and pairs, and how many changes there are."""
    return [("hs_state",), ("hs_all",)] + [("hs_look", student) for student in range(number)]


def probe(number):
    """Calls that tell in what state the house is: its lists, its pairs and its changes."""
    calls = seen(number)
    for call in ("hs_back", "hs_again"):
        for turn in range(21):
            calls += [(call,)] + seen(number)
    calls += [("hs_holds",), ("hs_steps",), ("hs_nth", 0), ("hs_out",), ("hs_most",), ("hs_rings",)]
    calls += [("hs_part", student) for student in range(number)]
    calls += [("hs_pair", one, other) for one, other in itertools.combinations(range(number), 2)]
    calls += [("hs_away",)] * (number + 1)
    return calls


class HouseCase(unittest.TestCase):
    """A test of answers, behind calls that make the house."""

    def answered(self, before, calls):
        """The answers to the calls, which come behind those before."""
        return run(before + calls)[len(before):]

    def expect(self, before, *calls_and_answers):
        """Behind those before, each call answers what stands beside it."""
        calls = [call for call, answer in calls_and_answers]
        found = self.answered(before, calls)
        for (call, answer), got in zip(calls_and_answers, found, strict=True):
            self.assertEqual(got, answer, call)

    def refused(self, before, number, call, code):
        """The call is refused with this code, and all is as it was (number: students there)."""
        after = probe(number)
        without = run(before + after)
        refused = run(before + [call] + after)
        self.assertEqual(refused.pop(len(before)), [code], call)
        self.assertEqual(refused, without, call)


class PlainHouse:
    """The document's words, one by one, without regard to how long it takes.

    Pairs are a frozenset of twos, the lesser one first; None is had by who is alone.
    """

    def __init__(self):
        self.lists = []
        self.pairs = frozenset()
        self.past = []
        self.undone = []

    def answer(self, call):
        before = self.copied()
        answer = getattr(self, call[0])(*call[1:])
        if call[0] in CHANGING and answer[0] >= 0:
            self.past = (self.past + [before])[-20:]
            self.undone = []
        return answer

    def copied(self):
        return [list(others) for others in self.lists], self.pairs

    def missing(self, *students):
        return any(student >= len(self.lists) for student in students)

    def share(self, one, other):
        return other in self.lists[one] and one in self.lists[other]

    def mate(self, pairs, student):
        for two in pairs:
            if student in two:
                return two[1] if two[0] == student else two[0]
        return None

    def told(self, pairs):
        mates = [self.mate(pairs, student) for student in range(6)]
        return [0 if mate is None else mate + 1 for mate in mates]

    def rather(self, student, one, other):
        """Whether the student would rather have the one than the other."""
        order = self.lists[student] + [None]
        return order.index(one) < order.index(other)

    def twos(self):
        everybody = range(len(self.lists))
        return [two for two in itertools.combinations(everybody, 2) if self.share(*two)]

    def breakers(self, pairs):
        return [
            (one, other) for one, other in self.twos()
            if self.rather(one, other, self.mate(pairs, one))
            and self.rather(other, one, self.mate(pairs, other))
        ]

    def broken(self, pairs, two):
        kept = [pair for pair in pairs if not set(pair) & set(two)]
        return frozenset(kept + [two])

    def every_pairing(self):
        found = []
        for count in range(4):
            for chosen in itertools.combinations(self.twos(), count):
                if len(set(sum(chosen, ()))) == 2 * count:
                    found.append(frozenset(chosen))
        return sorted(found, key=self.told)

    def holding(self):
        return [pairs for pairs in self.every_pairing() if not self.breakers(pairs)]

    def reaches(self, pairs, count, known):
        """Whether just so many breaks can lead from these pairs to some that hold."""
        if (pairs, count) not in known:
            twos = self.breakers(pairs)
            known[(pairs, count)] = not twos if count == 0 else any(
                self.reaches(self.broken(pairs, two), count - 1, known) for two in twos
            )
        return known[(pairs, count)]

    def way(self):
        """The first of the shortest ways."""
        if not self.holding():
            return None
        known = {}
        pairs = self.pairs
        count = next(count for count in itertools.count() if self.reaches(pairs, count, known))
        way = []
        for left in reversed(range(count)):
            two = next(
                two for two in self.breakers(pairs) if self.reaches(self.broken(pairs, two), left, known)
            )
            way.append(two)
            pairs = self.broken(pairs, two)
        return way

    def votes(self, one, other):
        """How many would rather have the one pairing than the other."""
        return sum(
            self.rather(student, self.mate(one, student), self.mate(other, student))
            for student in range(len(self.lists))
        )

    def hs_start(self, count):
        if count > 6:
            return [-22]
        self.lists = [[] for student in range(count)]
        self.pairs = frozenset()
        self.past = []
        self.undone = []
        return [0]

    def hs_wish(self, student, count, row):
        if self.missing(student):
            return [-2]
        if count > 5 or student in row[:count] or not self.each_once(row[:count]):
            return [-22]
        before = len(self.lists[student])
        self.lists[student] = row[:count]
        self.pairs = frozenset(two for two in self.pairs if self.share(*two))
        return [before, len(self.pairs)]

    def each_once(self, students):
        return not self.missing(*students) and all(students.count(student) == 1 for student in students)

    def hs_in(self, count, row):
        if len(self.lists) == 6:
            return [-28]
        if count > 5 or not self.each_once(row[:count]):
            return [-22]
        for others in self.lists:
            others.append(len(self.lists))
        self.lists.append(row[:count])
        return [len(self.lists) - 1]

    def hs_away(self):
        if not self.lists:
            return [-6]
        last = len(self.lists) - 1
        mate = self.told(self.pairs)[last]
        self.pairs = frozenset(two for two in self.pairs if last not in two)
        self.lists = [[other for other in others if other != last] for others in self.lists[:-1]]
        return [last, mate]

    def hs_pair(self, one, other):
        if self.missing(one, other):
            return [-2]
        if not self.share(one, other):
            return [-33]
        if self.mate(self.pairs, one) is not None or self.mate(self.pairs, other) is not None:
            return [-16]
        self.pairs = self.pairs | {(min(one, other), max(one, other))}
        return [len(self.pairs)]

    def hs_part(self, student):
        if self.missing(student):
            return [-2]
        mate = self.mate(self.pairs, student)
        if mate is None:
            return [-6]
        self.pairs = frozenset(two for two in self.pairs if student not in two)
        return [mate]

    def hs_break(self, one, other):
        if self.missing(one, other):
            return [-2]
        two = (min(one, other), max(one, other))
        if two not in self.breakers(self.pairs):
            return [-33]
        self.pairs = self.broken(self.pairs, two)
        return [len(self.pairs), len(self.breakers(self.pairs))]

    def hs_step(self):
        way = self.way()
        if not way:
            return [-33 if way is None else -17]
        self.pairs = self.broken(self.pairs, way[0])
        return [len(self.way()), *way[0]]

    def hs_settle(self):
        way = self.way()
        if not way:
            return [-33 if way is None else -17]
        for two in way:
            self.pairs = self.broken(self.pairs, two)
        return [len(way)] + self.told(self.pairs)

    def hs_take(self, place):
        if place >= len(self.holding()):
            return [-2]
        self.pairs = self.holding()[place]
        return [len(self.pairs)] + self.told(self.pairs)

    def hs_holds(self):
        return [int(self.pairs in self.holding())]

    def hs_steps(self):
        way = self.way()
        return [-33 if way is None else len(way)]

    def hs_nth(self, place):
        way = self.way()
        if way is None:
            return [-33]
        return list(way[place]) if place < len(way) else [-2]

    def hs_votes(self, row):
        count = len(self.lists)
        row = [0 if row[student] == student + 1 else row[student] for student in range(count)]
        for pairs in self.every_pairing():
            if self.told(pairs)[:count] == row:
                return [self.votes(pairs, self.pairs), self.votes(self.pairs, pairs), len(self.breakers(pairs))]
        return [-22]

    def hs_out(self):
        better = [
            pairs for pairs in self.every_pairing()
            if self.votes(pairs, self.pairs) > self.votes(self.pairs, pairs)
        ]
        return [len(better)] + self.told(better[0] if better else ())

    def hs_most(self):
        most = max(len(pairs) for pairs in self.every_pairing())
        return [most] + self.told(next(pairs for pairs in self.every_pairing() if len(pairs) == most))

    def most(self):
        """All pairings with the most pairs."""
        pairings = self.every_pairing()
        return [pairs for pairs in pairings if all(len(pairs) >= len(others) for others in pairings)]

    def alone(self, pairs):
        return [student for student in range(len(self.lists)) if self.mate(pairs, student) is None]

    def bits(self, students):
        return sum(2 ** student for student in set(students))

    def hs_lost(self):
        if not self.holding():
            return [-33]
        pairs = len(self.holding()[0])
        return [len(self.most()[0]) - pairs, pairs]

    def part(self, among, student):
        """Those who hang together with the student."""
        part = {student}
        while True:
            more = {other for other in among for one in part if self.share(one, other)} - part
            if not more:
                return frozenset(part)
            part |= more

    def beyond(self, chosen):
        others = set(range(len(self.lists))) - chosen
        parts = {self.part(others, student) for student in others}
        return sum(len(part) % 2 for part in parts) - len(chosen)

    def hs_why(self):
        everybody = range(len(self.lists))
        sets = [set(some) for count in range(7) for some in itertools.combinations(everybody, count)]
        told = sets[0]
        for chosen in sets[1:]:
            more = self.beyond(chosen) - self.beyond(told)
            if more > 0 or (more == 0 and min(chosen ^ told) not in chosen):
                told = chosen
        return [self.beyond(told), self.bits(told)]

    def hs_may(self):
        may = set(sum([self.alone(pairs) for pairs in self.most()], []))
        return [len(may), self.bits(may)]

    def hs_good(self):
        pairings = self.every_pairing()
        good = [
            pairs for pairs in pairings
            if not any(self.votes(others, pairs) > self.votes(pairs, others) for others in pairings)
        ]
        return [len(self.holding()), len(good), len(pairings)]

    def rings_hold(self, nexts):
        before = [nexts.index(student) for student in range(len(nexts))]
        for student, other in enumerate(nexts):
            if other != student:
                if not self.share(student, other) or not self.share(student, before[student]):
                    return False
                if other != before[student] and not self.rather(student, other, before[student]):
                    return False
        had = [None if before[student] == student else before[student] for student in range(len(nexts))]
        return not any(
            self.rather(one, other, had[one]) and self.rather(other, one, had[other]) for one, other in self.twos()
        )

    def ring(self, nexts, student):
        ring = [student]
        while nexts[ring[-1]] != student:
            ring.append(nexts[ring[-1]])
        return ring

    def hs_rings(self):
        count = len(self.lists)
        nexts = next(nexts for nexts in itertools.permutations(range(count)) if self.rings_hold(nexts))
        sizes = [len(self.ring(nexts, student)) for student in range(count)]
        odd = sizes.count(3) // 3 + sizes.count(5) // 5
        return [odd] + [other + 1 for other in nexts] + [0] * (6 - count)

    def hs_alone(self):
        if not self.holding():
            return [-33]
        alone = self.alone(self.holding()[0])
        return [len(alone), self.bits(alone)]

    def hs_best(self, student):
        if self.missing(student):
            return [-2]
        if not self.holding():
            return [-33]
        mates = [self.mate(pairs, student) for pairs in self.holding()]
        for mate in self.lists[student]:
            if mate in mates:
                return [mate]
        return [student]

    def hs_rather(self, place):
        if place >= len(self.holding()):
            return [-2]
        pairs = self.holding()[place]
        return [self.votes(pairs, self.pairs), self.votes(self.pairs, pairs)]

    def hs_breakers(self):
        breakers = self.breakers(self.pairs)
        return [len(breakers), *(breakers[0] if breakers else (0, 0))]

    def hs_with(self, student):
        if self.missing(student):
            return [-2]
        mate = self.mate(self.pairs, student)
        return [-6 if mate is None else mate]

    def hs_look(self, student):
        if self.missing(student):
            return [-2]
        wanted = self.lists[student]
        return [len(wanted)] + ([other + 1 for other in wanted] + [0] * 5)[:5]

    def hs_all(self):
        return [len(self.pairs)] + self.told(self.pairs)

    def hs_back(self):
        if not self.past:
            return [-2]
        self.undone.append(self.copied())
        self.lists, self.pairs = self.past.pop()
        return [len(self.past)]

    def hs_again(self):
        if not self.undone:
            return [-2]
        self.past.append(self.copied())
        self.lists, self.pairs = self.undone.pop()
        return [len(self.undone)]

    def hs_state(self):
        return [len(self.lists), len(self.past), len(self.undone)]
