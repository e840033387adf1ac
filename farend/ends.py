"""The heap with two ends, small deed by small deed."""

from farend.errors import NoTurn
from farend.jobs import is_whole


class Walk:
    """A play as it stands behind some small deeds, by the rules "good", "bare" or "blind"."""

    def __init__(self, play, rules):
        self.play = play
        self.rules = rules
        deeds, tries = play
        # For the owner, then each thief: how many deeds are due, and how many have ended.
        self.due_deeds = [len(deeds)] + list(tries)
        self.past_deeds = [0] * len(self.due_deeds)
        # Of the deed under way: its small deeds done, far as it was read, and what was read.
        self.small_done = [0] * len(self.due_deeds)
        self.far_read = [None] * len(self.due_deeds)
        self.held = [None] * len(self.due_deeds)
        self.told = [[] for mover in self.due_deeds]
        self.boxes = []
        self.near = 0
        self.far = 0

    def copied(self):
        """Tell a walk that stands as this one does and is touched by nothing that this one does later."""
        twin = Walk(self.play, self.rules)
        twin.past_deeds = list(self.past_deeds)
        twin.small_done = list(self.small_done)
        twin.far_read = list(self.far_read)
        twin.held = list(self.held)
        twin.told = [list(row) for row in self.told]
        twin.boxes = list(self.boxes)
        twin.near = self.near
        twin.far = self.far
        return twin

    def state(self):
        """Tell all on which it hangs how the walk goes on and ends, as a key."""
        movers = (tuple(self.past_deeds), tuple(self.small_done), tuple(self.far_read), tuple(self.held))
        return (movers, tuple([tuple(row) for row in self.told]), tuple(self.boxes), self.near, self.far)

    def outcome(self):
        """Tell what takes and tries that have ended came to, and what lies from far to below near."""
        # Near may be below far or below nought, which a range takes as nothing.
        return ([list(row) for row in self.told], [self.boxes[at] for at in range(self.far, self.near)])

    def has_left(self, who):
        """Tell of any thing whether it is a mover that has a small deed left."""
        if not is_whole(who) or not 0 <= who < len(self.due_deeds):
            return False
        return self.past_deeds[who] < self.due_deeds[who]

    def movers_left(self):
        """Tell, rising, the movers that have a small deed left."""
        return [who for who in range(len(self.due_deeds)) if self.has_left(who)]

    def move(self, who):
        """Do a mover's next small deed."""
        number = self.small_done[who]
        self.small_done[who] = number + 1
        if who > 0:
            self.move_try(who, number)
        elif self.play[0][self.past_deeds[0]][0] == "lay":
            self.move_lay(number)
        else:
            self.move_take(number)

    def end_deed(self, who):
        """Let a mover's deed end; what it had read is forgotten, as nothing hangs on it any longer."""
        self.past_deeds[who] += 1
        self.small_done[who] = 0
        self.far_read[who] = None
        self.held[who] = None

    def come_to(self, who, what):
        """Let a take or a try end, and tell what it came to."""
        self.told[who].append(what)
        self.end_deed(who)

    def move_lay(self, number):
        """Do the small deed of a lay with this number."""
        if number == 0:
            self.put_near(self.play[0][self.past_deeds[0]][1])
        else:
            self.near += 1
            self.end_deed(0)

    def put_near(self, thing):
        """Put a thing into box near."""
        # Near is never above how many boxes have been put to, so one more is enough.
        if self.near == len(self.boxes):
            self.boxes.append(thing)
        else:
            self.boxes[self.near] = thing

    def move_take(self, number):
        """Do the small deed of a take with this number."""
        if number == 0:
            self.near -= 1
        elif number == 1:
            self.far_read[0] = self.far
        elif number == 2:
            self.take_third()
        elif number == 3 and self.rules != "bare":
            self.take_fourth()
        else:
            self.near = self.far_read[0] + 1
            self.come_to(0, self.held[0])

    def take_third(self):
        """Do the third small deed of a take: it ends but where the last thing is at stake."""
        if self.near < self.far_read[0]:
            self.near = self.far_read[0]
            self.come_to(0, None)
        elif self.near > self.far_read[0]:
            self.come_to(0, self.boxes[self.near])
        else:
            self.held[0] = self.boxes[self.near]

    def take_fourth(self):
        """Do the fourth small deed of a take: the last thing is got where no thief was first."""
        if self.far == self.far_read[0]:
            self.far += 1
        else:
            self.held[0] = None

    def move_try(self, who, number):
        """Do the small deed of a try with this number."""
        if number == 0:
            self.far_read[who] = self.far
        elif number == 1:
            if self.near <= self.far_read[who]:
                self.come_to(who, None)
        elif number == 2:
            self.held[who] = self.boxes[self.far_read[who]]
        elif self.rules == "blind" or self.far == self.far_read[who]:
            self.far = self.far_read[who] + 1
            self.come_to(who, self.held[who])
        else:
            self.come_to(who, "lost")


def walked(play, weaving):
    """Tell what takes and tries that have ended came to behind a small weaving, and what is left."""
    walk = Walk(play, "good")
    for place, who in enumerate(weaving):
        if not walk.has_left(who):
            raise NoTurn(place)
        walk.move(who)
    return walk.outcome()
