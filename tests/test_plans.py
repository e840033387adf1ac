import copy
import itertools
import os
import random
import sys
import unittest

sys.path.insert(0, os.path.dirname(os.path.abspath(__file__)))

from farend.alone import alone
from farend.beats import beaten
from farend.plans import bound, is_plan
from farend.ways import all_hangs, longest, whole
from samples import (
    ALONE, ANY_THINGS, DEEP_HEAP, DO, GREAT, MANY_CHILDREN, TWO_WAITS, WAIT, around, chain, random_job, send,
)

# The steps of 0 with 1 done beside the middle one.
SMALL = ((1, (send(1), DO, WAIT)), (1, (DO,)))
RIGHT = [[(0, 0)], [(0, 1), (1, 0)], [(0, 2)]]


def steps_of(job):
    return [(work, number) for work in range(len(job)) for number in range(len(job[work][1]))]


def plan_of(job, hands, seed):
    """A plan in which each beat has some of the steps that may be done."""
    chance = random.Random(seed)
    need = {step: set(all_hangs(job, step)) for step in steps_of(job)}
    done, plan = set(), []
    while len(done) < len(need):
        free = [step for step in need if step not in done and need[step] <= done]
        beat = sorted(chance.sample(free, chance.randint(0, min(hands, len(free)))))
        plan.append(beat)
        done |= set(beat)
    return plan


class PlanTest(unittest.TestCase):
    def assert_plan(self, job, hands, thing):
        self.looked_at(job, hands, thing, True)

    def assert_none(self, job, hands, thing):
        self.looked_at(job, hands, thing, False)

    def looked_at(self, job, hands, thing, expected):
        before = repr(thing)
        self.assertIs(is_plan(job, hands, thing), expected, before)
        self.assertEqual(repr(thing), before)

    def test_plans(self):
        self.assert_plan(ALONE, 1, [[(0, 0)]])
        self.assert_plan(SMALL, 2, RIGHT)
        self.assert_plan(SMALL, 6, RIGHT)
        self.assert_plan(SMALL, 1, [[(0, 0)], [(0, 1)], [(1, 0)], [(0, 2)]])
        self.assert_plan(SMALL, 1, [[(0, 0)], [(1, 0)], [(0, 1)], [(0, 2)]])

    def test_beats_of_no_steps(self):
        self.assert_plan(ALONE, 1, [[], [(0, 0)], [], []])
        self.assert_plan(SMALL, 2, [[], []] + RIGHT[:1] + [[]] + RIGHT[1:] + [[]])
        self.assert_none(ALONE, 1, [[]])
        self.assert_none(ALONE, 1, [])

    def test_in_an_earlier_beat_or_in_the_same_one_as_one_on_which_it_hangs(self):
        self.assert_none(SMALL, 2, [[(0, 1)], [(0, 0)], [(1, 0)], [(0, 2)]])
        self.assert_none(SMALL, 2, [[(1, 0)], [(0, 0)], [(0, 1)], [(0, 2)]])
        self.assert_none(SMALL, 2, [[(0, 0)], [(0, 1)], [(0, 2)], [(1, 0)]])
        self.assert_none(SMALL, 2, [[(0, 0), (0, 1)], [(1, 0)], [(0, 2)]])
        self.assert_none(SMALL, 2, [[(0, 0), (1, 0)], [(0, 1)], [(0, 2)]])
        self.assert_none(SMALL, 2, [[(0, 0)], [(0, 1)], [(0, 2), (1, 0)]])
        self.assert_none(SMALL, 4, [[(0, 0), (0, 1), (0, 2), (1, 0)]])

    def test_a_wait_hangs_on_works_below_those_sent_off(self):
        job = ((1, (send(1), WAIT)), (1, (send(2),)), (1, (DO,)))
        self.assert_plan(job, 2, [[(0, 0)], [(1, 0)], [(2, 0)], [(0, 1)]])
        self.assert_none(job, 2, [[(0, 0)], [(1, 0)], [(0, 1), (2, 0)]])
        self.assert_none(job, 2, [[(0, 0)], [(1, 0)], [(0, 1)], [(2, 0)]])

    def test_left_out_and_twice(self):
        for at in range(3):
            self.assert_none(SMALL, 2, RIGHT[:at] + RIGHT[at + 1:])
            self.assert_none(SMALL, 2, RIGHT[:at + 1] + RIGHT[at:])
            self.assert_none(SMALL, 2, RIGHT + [RIGHT[at]])
        self.assert_none(SMALL, 2, [[(0, 0)], [(0, 1)], [(0, 2)]])
        self.assert_none(SMALL, 2, [[(0, 0), (0, 0)], [(0, 1), (1, 0)], [(0, 2)]])
        self.assert_none(SMALL, 4, [[(0, 0)], [(0, 1), (1, 0), (1, 0)], [(0, 2)]])

    def test_steps_that_are_not_there(self):
        for step in [(2, 0), (0, 3), (1, 1), (-1, 0), (0, -1), (-2, -3), (GREAT, 0), (0, GREAT), (-GREAT, 0), (12, 8)]:
            self.assert_none(SMALL, 2, RIGHT + [[step]])
            self.assert_none(SMALL, 2, [[step]] + RIGHT)
            self.assert_none(SMALL, 2, RIGHT[:2] + [[step]])

    def test_rising(self):
        self.assert_none(SMALL, 2, [[(0, 0)], [(1, 0), (0, 1)], [(0, 2)]])
        job = ((1, tuple(send(child) for child in range(1, 5))),) + ((1, (DO,)),) * 4
        head = [[(0, number)] for number in range(4)]
        for beat in itertools.permutations([(child, 0) for child in range(1, 5)]):
            self.looked_at(job, 4, head + [list(beat)], list(beat) == sorted(beat))

    def test_no_more_steps_in_a_beat_than_hands(self):
        job = ((1, tuple(send(child) for child in range(1, 7))),) + ((1, (DO,)),) * 6
        plan = [[(0, number)] for number in range(6)] + [[(child, 0) for child in range(1, 7)]]
        for hands in range(1, 8):
            self.looked_at(job, hands, plan, hands >= 6)

    def test_tuples_for_lists_and_lists_for_tuples(self):
        self.assert_none(SMALL, 2, tuple(RIGHT))
        self.assert_none(SMALL, 2, [tuple(beat) for beat in RIGHT])
        self.assert_none(SMALL, 2, RIGHT + [()])
        for at in range(3):
            self.assert_none(SMALL, 2, RIGHT[:at] + [tuple(RIGHT[at])] + RIGHT[at + 1:])
            self.assert_none(SMALL, 2, RIGHT[:at] + [[list(step) for step in RIGHT[at]]] + RIGHT[at + 1:])

    def test_truths_for_numbers(self):
        self.assert_none(SMALL, 2, [[(False, 0)]] + RIGHT[1:])
        self.assert_none(SMALL, 2, [[(0, False)]] + RIGHT[1:])
        self.assert_none(SMALL, 2, [[(0, 0)], [(0, True), (1, 0)], [(0, 2)]])
        self.assert_none(SMALL, 2, [[(0, 0)], [(0, 1), (True, 0)], [(0, 2)]])

    def test_other_kinds(self):
        for thing in ANY_THINGS:
            for job in [ALONE, SMALL]:
                self.assert_none(job, 2, thing)
                self.assert_none(job, 2, [thing])
                self.assert_none(job, 2, [[thing]])
                self.assert_none(job, 2, [[(0, thing)]] if repr(thing) != "0" else [[(0, thing)]] * 2)
                self.assert_none(job, 2, [[(thing, 0)], []] if repr(thing) != "0" else [[(thing, 0)]] * 2)
            if thing != []:
                self.assert_none(SMALL, 2, RIGHT + [thing])
                self.assert_none(SMALL, 2, [thing] + RIGHT)
            self.assert_none(SMALL, 2, RIGHT + [[thing]])
            if thing != (0, 1):
                self.assert_none(SMALL, 2, [[(0, 0)], [thing, (1, 0)], [(0, 2)]])
            self.assert_none(SMALL, 2, [[(0, 0)], [(0, 1), thing], [(0, 2)]])
        self.assert_none(SMALL, 2, {0: RIGHT})
        self.assert_none(SMALL, 2, [RIGHT])
        self.assert_none(SMALL, 2, [[(0, 0, 0)]] + RIGHT[1:])
        self.assert_none(SMALL, 2, [[(0,)]] + RIGHT[1:])

    def test_deep_things(self):
        for first in [[], (), [(0, 0)], (0, 0)]:
            for kind in [list, tuple]:
                thing = first
                for turn in range(18):
                    thing = kind([thing])
                    if thing != [[(0, 0)]]:
                        self.assert_none(ALONE, 2, thing)
                        self.assert_none(ALONE, 2, [[(0, 0)], thing])
                        self.assert_none(ALONE, 2, [[(0, 0), thing]])

    def test_many_beats(self):
        self.assert_plan(ALONE, 1, [[]] * 4000 + [[(0, 0)]] + [[]] * 4000)
        self.assert_none(ALONE, 1, [[(0, 0)]] * 3000)

    def test_a_small_job_wholly(self):
        """Each way to put four steps into four beats, of which point 16's words tell which are plans."""
        need = {step: all_hangs(SMALL, step) for step in steps_of(SMALL)}
        plans = 0
        for when in itertools.product(range(4), repeat=4):
            at = dict(zip(steps_of(SMALL), when))
            thing = [[step for step in steps_of(SMALL) if at[step] == beat] for beat in range(4)]
            for hands in (1, 2):
                right = all(at[other] < at[step] for step in need for other in need[step])
                right = right and max(len(beat) for beat in thing) <= hands
                self.looked_at(SMALL, hands, thing, right)
                plans += right
        self.assertGreater(plans, 5)

    def test_random_plans_and_what_is_broken_in_them(self):
        for seed in range(60):
            chance = random.Random(seed)
            job, hands = random_job(seed), 1 + seed % 6
            plan = plan_of(job, hands, seed)
            self.assert_plan(job, hands, plan)
            when = {step: at for at, beat in enumerate(plan) for step in beat}
            step = chance.choice(sorted(when))
            ahead = all_hangs(job, step)
            behind = [other for other in when if step in all_hangs(job, other)]
            without = [[other for other in beat if other != step] for beat in plan]
            self.assert_none(job, hands, without)
            for at in range(len(plan)):
                moved = copy.deepcopy(without)
                moved[at] = sorted(moved[at] + [step])
                right = len(moved[at]) <= hands
                right = right and all(when[other] < at for other in ahead)
                right = right and all(at < when[other] for other in behind)
                self.looked_at(job, hands, moved, right)

    def test_alone_and_beats_are_plans(self):
        for job in [DEEP_HEAP, TWO_WAITS, MANY_CHILDREN, chain(12, 8)]:
            self.assert_plan(job, 1, [[step] for step in alone(job)[0]])
            for hands in range(1, 7):
                beats = beaten(job, hands, around(hands))
                self.assert_plan(job, hands, [sorted(step for step in beat if step) for beat in beats])

    def test_the_job_stays(self):
        job = random_job(5)
        before = copy.deepcopy(job)
        is_plan(job, 2, plan_of(job, 2, 5))
        bound(job, 2)
        self.assertEqual(job, before)


class BoundTest(unittest.TestCase):
    def test_where_the_longest_way_is_the_greater_one(self):
        self.assertEqual([bound(chain(12), hands) for hands in range(1, 7)], [12] * 6)
        self.assertEqual([bound(ALONE, hands) for hands in range(1, 7)], [1] * 6)
        self.assertEqual(bound(MANY_CHILDREN, 3), 15)

    def test_where_the_shared_whole_is_with_a_rest_and_without_one(self):
        # Five steps of 0 send off five works of eight: 45 steps, the longest way 13.
        job = ((1, tuple(send(child) for child in range(1, 6))),) + ((1, (DO,) * 8),) * 5
        self.assertEqual((whole(job), longest(job)), (45, 13))
        self.assertEqual([bound(job, hands) for hands in range(1, 7)], [45, 23, 15, 13, 13, 13])

    def test_one_hand(self):
        for seed in range(40):
            self.assertEqual(bound(random_job(seed), 1), whole(random_job(seed)))

    def test_random_jobs(self):
        for seed in range(60):
            job = random_job(seed)
            for hands in range(1, 9):
                told = bound(job, hands)
                self.assertIs(type(told), int)
                self.assertGreaterEqual(told, longest(job))
                self.assertGreaterEqual(told * hands, whole(job))
                self.assertTrue(told == longest(job) or (told - 1) * hands < whole(job))
                self.assertLessEqual(told, len(beaten(job, hands, around(hands))))

    def test_no_plan_has_fewer_beats(self):
        for seed in range(60):
            job, hands = random_job(seed), 1 + seed % 6
            self.assertLessEqual(bound(job, hands), len(plan_of(job, hands, seed)))


if __name__ == "__main__":
    unittest.main()
