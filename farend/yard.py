"""A yard: a job with hands that is told turns one by one, and can go back."""

from farend.crew import Crew
from farend.errors import NoBack, NoTurn
from farend.turns import is_turn


class Yard:
    """A job with hands, as it stands behind the turns that it was told."""

    def __init__(self, job, hands):
        self.hands = hands
        self.crew = Crew(job, hands)
        # What stood ahead of each turn that stands, so that going back needs no undoing.
        self.past = []

    def turn(self, hand, other):
        """Do a turn and tell what was done."""
        if not is_turn((hand, other), self.hands):
            raise NoTurn(0)
        before = self.crew
        # A missed turn changes nothing, so however many follow, they need no copies.
        if before.foretold(hand, other)[0] != "missed":
            self.crew = before.copied()
        self.past.append(before)
        return self.crew.take_turn(hand, other)

    def back(self):
        """Undo the last turn that stands."""
        if not self.past:
            raise NoBack("no turn stands that could be undone")
        self.crew = self.past.pop()

    def works(self):
        """Tell each hand's work, None for none."""
        return list(self.crew.at_work)

    def heaps(self):
        """Tell the heaps, each from its far end to its near one."""
        return [list(pile) for pile in self.crew.piles]

    def standing(self):
        """Tell, rising, the works that stand."""
        return [work for work, stands in enumerate(self.crew.stands) if stands]

    def living(self):
        """Tell, rising, the works that live."""
        return [work for work, lives in enumerate(self.crew.lives) if lives]

    def done(self):
        """Tell the steps done, in their order."""
        return list(self.crew.steps_done)

    def able(self):
        """Tell, rising, the hands that can go on: with a work, or with a heap that isn't empty."""
        return [
            hand
            for hand in range(self.hands)
            if self.crew.at_work[hand] is not None or self.crew.piles[hand]
        ]

    def room(self):
        """Tell the room that living works have together."""
        return self.crew.room_now

    def most(self):
        """Tell the most room that living works ever had together."""
        return self.crew.room_most

    def ended(self):
        """Tell whether all has ended."""
        return self.crew.all_ended()
