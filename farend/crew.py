"""The hands at a job: who has which work, what lies in the heaps, what stands and what lives."""

from farend.jobs import parents


class Crew:
    """A job with its hands, as it stands behind some steps and takes."""

    def __init__(self, job, hands):
        self.job = job
        self.elders = parents(job)
        self.at_work = [0] + [None] * (hands - 1)
        # Each heap from its far end to its near one.
        self.piles = [[] for hand in range(hands)]
        self.stands = [False] * len(job)
        self.lives = [False] * len(job)
        self.next_steps = [0] * len(job)
        self.steps_done = []
        self.room_now = 0
        self.room_most = 0
        self.begin(0)

    def copied(self):
        """Tell a crew that stands as this one does and is touched by nothing that this one does later."""
        twin = Crew(self.job, len(self.piles))
        twin.at_work = list(self.at_work)
        twin.piles = [list(pile) for pile in self.piles]
        twin.stands = list(self.stands)
        twin.lives = list(self.lives)
        twin.next_steps = list(self.next_steps)
        twin.steps_done = list(self.steps_done)
        twin.room_now = self.room_now
        twin.room_most = self.room_most
        return twin

    def all_ended(self):
        """Tell whether all has ended: 0 ends last."""
        return not self.lives[0]

    def begin(self, work):
        """Let a work begin."""
        self.lives[work] = True
        self.room_now += self.job[work][0]
        self.room_most = max(self.room_most, self.room_now)

    def end(self, work):
        """Let a work end."""
        self.lives[work] = False
        self.room_now -= self.job[work][0]

    def has_living_child(self, work):
        """Tell whether one of a work's children lives."""
        return any([elder == work and lives for elder, lives in zip(self.elders, self.lives)])

    def none_left(self, work):
        """Tell whether all steps of a work are done."""
        return self.next_steps[work] == len(self.job[work][1])

    def waits_or_none_left(self, work):
        """Tell whether a work's next step is a wait, or none is left."""
        return self.none_left(work) or self.job[work][1][self.next_steps[work]] == ("wait",)

    def foretold(self, hand, other):
        """Tell what a hand's turn would tell, looking at another one; nothing is changed."""
        work = self.at_work[hand]
        if work is not None:
            return ("step", work, self.next_steps[work])
        if self.piles[hand]:
            return ("own", self.piles[hand][-1])
        if self.piles[other]:
            return ("took", self.piles[other][0], other)
        return ("missed", other)

    def take_turn(self, hand, other):
        """Do a hand's turn, looking at another one, and tell what was done."""
        told = self.foretold(hand, other)
        if told[0] == "step":
            self.do_step(hand)
        elif told[0] == "own":
            self.at_work[hand] = self.piles[hand].pop()
        elif told[0] == "took":
            self.at_work[hand] = self.piles[other].pop(0)
        return told

    def do_step(self, hand):
        """Do the next step of a hand's work, and settle the hand."""
        work = self.at_work[hand]
        number = self.next_steps[work]
        step = self.job[work][1][number]
        self.steps_done.append((work, number))
        self.next_steps[work] = number + 1
        if step[0] == "send":
            self.send_off(hand, step[1])
        self.settle(hand)

    def send_off(self, hand, child):
        """Let a hand go on with a child of its work, and put the work by."""
        work = self.at_work[hand]
        if self.waits_or_none_left(work):
            self.stands[work] = True
        else:
            self.piles[hand].append(work)
        self.begin(child)
        self.at_work[hand] = child

    def settle(self, hand):
        """Let a hand leave its work where that can't go on, and the next one, too, as often as need be."""
        while self.must_leave(self.at_work[hand]):
            self.leave(hand)

    def must_leave(self, work):
        """Tell whether a hand's work can't go on now; a hand without one has nothing to leave."""
        if work is None:
            return False
        return self.none_left(work) or (self.waits_or_none_left(work) and self.has_living_child(work))

    def leave(self, hand):
        """Let a hand's work that can't go on stand or end; behind an end its parent may go on."""
        work = self.at_work[hand]
        self.at_work[hand] = None
        if self.has_living_child(work):
            self.stands[work] = True
            return
        self.end(work)
        elder = self.elders[work]
        if elder is not None and self.stands[elder] and not self.has_living_child(elder):
            self.stands[elder] = False
            self.at_work[hand] = elder
