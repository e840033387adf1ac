"""Point 3: in every weaving of turns, whoever looks at whose heap, and in every weaving of small deeds."""

import itertools
import os
import sys
import unittest
from collections import Counter

sys.path.insert(0, os.path.dirname(os.path.abspath(__file__)))

from by_words import ByWords
from deeds_by_words import SMALL_TRIES, all_games, plays
from farend.beats import beaten, measured
from farend.ends import walked
from farend.fewest import fewest
from farend.plans import bound, is_plan
from farend.ways import all_hangs, longest, road, whole
from farend.yard import Yard
from samples import (
    ALL_AT_ONCE, DEEP_HEAP, DO, MANY_CHILDREN, TWO_WAITS, WAIT, around, chain, random_job, random_order, random_small_job,
    random_weaving, send,
)

JOBS = [ALL_AT_ONCE, DEEP_HEAP, MANY_CHILDREN, TWO_WAITS, chain(12), chain(12, 8)] + [random_job(seed) for seed in range(40)]

# Jobs of which all weavings are gone through.
SMALL_JOBS = [
    ((1, (send(1), DO, WAIT)), (3, (send(2), DO)), (9, (DO,))),
    ((2, (send(1), send(2), DO, WAIT)), (5, (DO, DO)), (9, (send(3),)), (4, (DO,))),
    ((1, (send(1), send(2), send(3))), (9, (DO, DO)), (9, (DO,)), (9, (WAIT, DO))),
    ((1, (send(2), WAIT, send(1), DO)), (8, (DO,)), (7, (send(3), WAIT)), (9, (DO,))),
    ((1, (send(1), send(4), DO)), (2, (send(2), DO, WAIT)), (9, (send(3), DO)), (9, (DO,)), (3, (send(5), DO)), (9, (DO,))),
]


def states_by_words(job, hands):
    """How many states there are in all weavings, told by another way of doing turns."""
    first = ByWords(job, hands)
    met = {repr((first.has, first.heaps, [], [])): first}
    due = [first]
    while due:
        now = due.pop()
        for hand, other in itertools.permutations(range(hands), 2):
            after = now.copied()
            after.turn(hand, other)
            # In which order steps were done, and the most room, make no other state.
            state = repr((after.has, after.heaps, sorted(after.standing), sorted(after.done)))
            if state not in met:
                met[state] = after
                due.append(after)
    return len(met)


class PromiseTest(unittest.TestCase):
    def look_over(self, yard, job, hands, needs):
        self.assertLessEqual(yard.room(), hands * road(job))
        self.assertLessEqual(yard.most(), hands * road(job))
        self.assertIs(yard.ended(), not yard.able())
        self.assertIs(yard.ended(), len(yard.done()) == whole(job))
        held = [work for work in yard.works() if work is not None]
        held += [work for heap in yard.heaps() for work in heap] + yard.standing()
        self.assertEqual(sorted(held), yard.living())
        done = yard.done()
        if done:
            self.assertNotIn(done[-1], done[:-1])
            self.assertLessEqual(needs[done[-1]], set(done[:-1]))

    def needs_of(self, job):
        steps = [(work, number) for work in range(len(job)) for number in range(len(job[work][1]))]
        return {step: set(all_hangs(job, step)) for step in steps}

    def test_many_weavings(self):
        for at, job in enumerate(JOBS):
            needs = self.needs_of(job)
            for hands in range(1, 7):
                yard = Yard(job, hands)
                for hand, other in random_weaving(at, hands, 30 * hands):
                    yard.turn(hand, other)
                    self.look_over(yard, job, hands, needs)

    def test_hands_that_can_go_on_come_to_the_end(self):
        for at, job in enumerate(JOBS):
            for hands in range(1, 7):
                yard = Yard(job, hands)
                turns = 0
                while not yard.ended():
                    # The last of those that can go on, always looking at the next one.
                    hand = yard.able()[-1]
                    self.assertNotEqual(yard.turn(hand, (hand + 1) % hands)[0], "missed")
                    turns += 1
                self.assertLessEqual(turns, 2 * whole(job))

    def test_all_weavings_of_small_jobs(self):
        for job in SMALL_JOBS:
            needs = self.needs_of(job)
            for hands in (2, 3):
                self.go_through(job, hands, needs)

    def go_through(self, job, hands, needs):
        """Each state is gone on from once, by each turn that isn't missed, and back again."""
        turns = list(itertools.permutations(range(hands), 2))
        yard = Yard(job, hands)
        met = set()
        ends = 0
        path = [list(turns)]
        while path:
            if not path[-1]:
                path.pop()
                if path:
                    yard.back()
                continue
            told = yard.turn(*path[-1].pop())
            self.look_over(yard, job, hands, needs)
            state = repr((yard.works(), yard.heaps(), yard.standing(), sorted(yard.done())))
            if told[0] == "missed" or state in met:
                yard.back()
                continue
            met.add(state)
            ends += yard.ended()
            path.append(list(turns))
        # The new yard isn't met anew.
        self.assertEqual(len(met) + 1, states_by_words(job, hands))
        self.assertEqual(ends, 1)
        self.assertEqual((yard.works()[0], yard.done()), (0, []))

    def test_beats(self):
        for at, job in enumerate(JOBS):
            for hands in range(1, 7):
                for order in [around(hands), random_order(at, hands)]:
                    beats, taken, idle, most = measured(job, hands, order)
                    self.assertGreaterEqual(beats, longest(job))
                    self.assertGreaterEqual(beats * hands, whole(job))
                    self.assertLessEqual(beats * hands, longest(job) * hands + whole(job))
                    self.assertLessEqual(beats, 2 * bound(job, hands))
                    self.assertLessEqual(most, hands * road(job))

    def test_beats_are_at_most_twice_the_fewest(self):
        unlike = 0
        for seed in range(60):
            job = random_small_job(seed)
            for hands in range(1, 5):
                few = len(fewest(job, hands)[0])
                for order in self.orders(hands, seed):
                    beats = beaten(job, hands, order)
                    self.assertTrue(is_plan(job, hands, [sorted(step for step in beat if step) for beat in beats]))
                    self.assertLessEqual(few, len(beats))
                    self.assertLessEqual(len(beats), 2 * few)
                    unlike += few < len(beats)
        self.assertGreater(unlike, 0)

    def orders(self, hands, seed):
        """All orders of looking of three hands and fewer, some of more."""
        if hands > 3:
            return [around(hands)] + [random_order(seed + turn, hands) for turn in range(3)]
        rows = [itertools.permutations([other for other in range(hands) if other != hand]) for hand in range(hands)]
        return itertools.product(*rows)

    def test_in_every_weaving_of_small_deeds_each_thing_is_got_once_at_most_and_none_is_lost(self):
        for play in list(plays(3, SMALL_TRIES)) + list(plays(4, [(1, 2)])):
            for game, weaving in all_games(play):
                told, left = walked(play, weaving)
                got = Counter(what for row in told for what in row if what not in (None, "lost"))
                laid = Counter(game.laid())
                self.assertLessEqual(got, laid)
                # In the middle of a deed a thing may be neither got yet nor lie there.
                self.assertLessEqual(got + Counter(left), laid)
                if not game.able():
                    self.assertEqual(got + Counter(left), laid)


if __name__ == "__main__":
    unittest.main()
