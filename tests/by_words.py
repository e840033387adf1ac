"""Points 9 to 11 of the document word by word: what lives is reckoned anew from the steps done, each time."""


def sent(job):
    """For each work but 0, the step by which it is sent off."""
    return {
        step[1]: (work, number)
        for work, (room, steps) in enumerate(job)
        for number, step in enumerate(steps)
        if step[0] == "send"
    }


def children(job, work):
    return [step[1] for step in job[work][1] if step[0] == "send"]


def has_begun(job, done, work):
    return work == 0 or sent(job)[work] in done


def has_ended(job, done, work):
    own = {(work, number) for number in range(len(job[work][1]))}
    return own <= set(done) and all(has_ended(job, done, child) for child in children(job, work))


def lives(job, done, work):
    return has_begun(job, done, work) and not has_ended(job, done, work)


def living(job, done):
    return [work for work in range(len(job)) if lives(job, done, work)]


def room_of(job, done):
    return sum(job[work][0] for work in living(job, done))


class ByWords:
    """A yard, gone through as the words stand."""

    def __init__(self, job, hands):
        self.job = job
        self.done = []
        self.has = {hand: None for hand in range(hands)}
        self.has[0] = 0
        self.heaps = {hand: [] for hand in range(hands)}
        self.standing = set()
        self.most = room_of(job, [])

    def copied(self):
        twin = ByWords(self.job, len(self.has))
        twin.done = list(self.done)
        twin.has = dict(self.has)
        twin.heaps = {hand: list(heap) for hand, heap in self.heaps.items()}
        twin.standing = set(self.standing)
        twin.most = self.most
        return twin

    def next_step(self, work):
        number = len([step for step in self.done if step[0] == work])
        steps = self.job[work][1]
        return steps[number] if number < len(steps) else None

    def a_child_lives(self, work):
        return any(lives(self.job, self.done, child) for child in children(self.job, work))

    def turn(self, hand, other):
        work = self.has[hand]
        if work is not None:
            return self.step(hand, work)
        if self.heaps[hand]:
            self.has[hand] = self.heaps[hand].pop()
            return ("own", self.has[hand])
        if self.heaps[other]:
            self.has[hand] = self.heaps[other][0]
            self.heaps[other] = self.heaps[other][1:]
            return ("took", self.has[hand], other)
        return ("missed", other)

    def step(self, hand, work):
        step = self.next_step(work)
        number = len([one for one in self.done if one[0] == work])
        self.done.append((work, number))
        if step[0] == "send":
            self.has[hand] = step[1]
            if self.next_step(work) in (("wait",), None):
                self.standing.add(work)
            else:
                self.heaps[hand].append(work)
        self.settle(hand)
        self.most = max(self.most, room_of(self.job, self.done))
        return ("step", work, number)

    def settle(self, hand):
        work = self.has[hand]
        following = self.next_step(work)
        if following in (("wait",), None) and self.a_child_lives(work):
            self.standing.add(work)
            self.has[hand] = None
        elif following is None:
            self.has[hand] = None
            parent = sent(self.job)[work][0] if work else None
            if parent in self.standing and not self.a_child_lives(parent):
                self.standing.remove(parent)
                self.has[hand] = parent
                self.settle(hand)

    def ended(self):
        return has_ended(self.job, self.done, 0)
