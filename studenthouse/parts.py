"""Sets of students, told as bits, and the parts that are left when a set is taken out."""


def as_bits(students):
    """The set of these students, each of whom is named once."""
    return sum([1 << student for student in students])


def every_set(number):
    """All sets of so many students.

    Of two sets the one without the least student in which they differ comes
    first, as the document has it of like ones.
    """
    found = [0]
    for student in range(number):
        further = []
        for chosen in found:
            further.extend([chosen, chosen | (1 << student)])
        found = further
    return found


def who_is_left(number, chosen):
    """The students who aren't in the set."""
    return [student for student in range(number) if (chosen >> student) & 1 == 0]


def part_names(wishes, left):
    """For each of those left the name of the part that they're in: one of its students."""
    names = list(range(wishes.number))
    for one, other in wishes.twos:
        if one in left and other in left:
            kept = names[one]
            lost = names[other]
            names = [kept if name == lost else name for name in names]
    return [names[student] for student in left]


def odd_beyond(wishes, chosen):
    """How many odd parts the set leaves beyond as many students as it has (below 0: fewer)."""
    left = who_is_left(wishes.number, chosen)
    names = part_names(wishes, left)
    odd = [student for student in left if names.count(student) % 2 == 1]
    return len(odd) - (wishes.number - len(left))


def set_that_tells_why(wishes):
    """The first of the sets that leave most odd parts beyond as many as they have."""
    return max(every_set(wishes.number), key=lambda chosen: odd_beyond(wishes, chosen))
