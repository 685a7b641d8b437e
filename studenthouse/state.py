"""What a house keeps from one call to the next."""

from studenthouse.pairings import all_alone
from studenthouse.wishes import no_wishes

MOST_KEPT = 20


class State:
    """The wishes of the students who are there, and whom each of them has.

    past holds what was ahead of each change that can be taken back, undone
    what was there when each change that can be done again was taken back,
    each as wishes and pairs. Neither is ever altered, so no copy is needed.
    """

    def __init__(self):
        self.begin(0)

    def begin(self, number):
        """So many students, who wish for nobody and are alone, and no changes."""
        self.wishes = no_wishes(number)
        self.has = all_alone(number)
        self.past = []
        self.undone = []

    def change(self, wishes, has):
        """Put other wishes and pairs in the place of those that were."""
        self.past = self.past[1 - MOST_KEPT:] + [(self.wishes, self.has)]
        self.undone = []
        self.wishes = wishes
        self.has = has

    def take_back(self):
        """All as it was ahead of the last change."""
        self.undone.append((self.wishes, self.has))
        self.put(self.past.pop())

    def do_again(self):
        """All as it was behind the change that was taken back last."""
        self.past.append((self.wishes, self.has))
        self.put(self.undone.pop())

    def put(self, kept):
        """The wishes and pairs that were kept."""
        self.wishes = kept[0]
        self.has = kept[1]

    def lacks(self, student):
        """Whether a student of this number isn't there."""
        return not self.wishes.there(student)
