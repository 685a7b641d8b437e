"""What the students wish: their lists, and what follows from them for two."""

MOST_STUDENTS = 6
LONGEST_LIST = 5


class Wishes:
    """Everybody's list. It is never altered once made, so states may share it.

    ranks tells for each student how far from their first wish each one is;
    a student's own place in it stands for being alone.
    """

    def __init__(self, lists):
        self.lists = lists
        self.number = len(lists)
        self.ranks = [ranks_of(student, lists) for student in range(len(lists))]
        self.twos = twos_who_share(lists)

    def there(self, student):
        """Whether a student of this number is in the house."""
        return student < self.number

    def share(self, one, other):
        """Whether these two would share."""
        return would_share(self.lists, one, other)

    def rather(self, student, one, other):
        """Whether the student would rather have the one than the other (themself: be alone)."""
        return self.ranks[student][one] < self.ranks[student][other]

    def with_list(self, student, wanted):
        """The wishes when this student has another list."""
        lists = list(self.lists)
        lists[student] = tuple(wanted)
        return Wishes(tuple(lists))

    def with_one_more(self, wanted):
        """The wishes when one more student is there, last on every other list."""
        lists = [others + (self.number,) for others in self.lists]
        lists.append(tuple(wanted))
        return Wishes(tuple(lists))

    def without_last(self):
        """The wishes when the last student isn't there any more."""
        last = self.number - 1
        return Wishes(tuple([without(others, last) for others in self.lists[:last]]))


def no_wishes(number):
    """The wishes of so many students whose lists have nobody."""
    return Wishes(((),) * number)


def ranks_of(student, lists):
    """How far each one is from the student's first wish; the less, the gladder."""
    number = len(lists)
    ranks = [number + 1] * number
    ranks[student] = number
    for place, other in enumerate(lists[student]):
        ranks[other] = place
    return ranks


def would_share(lists, one, other):
    """Whether each of the two is on the other's list."""
    return other in lists[one] and one in lists[other]


def twos_who_share(lists):
    """All twos who would share, the lesser one first, in order."""
    twos = []
    for lesser in range(len(lists)):
        for other in range(lesser + 1, len(lists)):
            if would_share(lists, lesser, other):
                twos.append((lesser, other))
    return twos


def without(others, student):
    """A list with this student struck off."""
    return tuple([other for other in others if other != student])


def is_list(wanted, number, owner):
    """Whether these are students other than the owner, there, and each once."""
    for other in wanted:
        if other >= number or other == owner:
            return False
    return len(set(wanted)) == len(wanted)
