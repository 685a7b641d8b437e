"""What a house keeps from one call to the next."""

from studenthouse.pairings import all_alone
from studenthouse.wishes import no_wishes


class State:
    """The wishes of the students who are there, and whom each of them has."""

    def __init__(self):
        self.wishes = no_wishes(0)
        self.has = all_alone(0)

    def begin(self, number):
        """So many students, who wish for nobody and are alone."""
        self.wishes = no_wishes(number)
        self.has = all_alone(number)

    def change(self, wishes, has):
        """Put other wishes and pairs in the place of those that were."""
        self.wishes = wishes
        self.has = has

    def lacks(self, student):
        """Whether a student of this number isn't there."""
        return not self.wishes.there(student)
