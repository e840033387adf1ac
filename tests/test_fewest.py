import copy
import functools
import itertools
import os
import random
import sys
import unittest

sys.path.insert(0, os.path.dirname(os.path.abspath(__file__)))

from by_words import children
from farend.errors import NoSize
from farend.fewest import fewest, is_fewest, least_hands
from farend.plans import bound, is_plan
from refusals import assert_refused
from samples import (
    ALL_AT_ONCE, ALONE, ANY_THINGS, DEEP_HEAP, DO, GREAT, MANY_CHILDREN, TWO_WAITS, WAIT, chain, random_small_job, send,
)

SMALL = ((1, (send(1), DO, WAIT)), (1, (DO,)))
# Four children beside one another: the more hands, the fewer beats.
WIDE = ((1, tuple(send(child) for child in range(1, 5))),) + ((2, (DO,)),) * 3 + ((3, (DO, DO)),)
NINE_WORKS = ALL_AT_ONCE[:8] + ((1, (DO,)),)
JOBS = [
    ALONE, SMALL, WIDE, NINE_WORKS, DEEP_HEAP, chain(9), chain(8), chain(3, 3), chain(4, 2), ((9, (DO,) * 8),),
    ((1, (send(1), send(2), WAIT)), (1, (DO, DO)), (1, (DO, send(3), DO)), (1, (DO,))),
    ((1, (send(1), send(2), send(3))), (1, (DO, DO)), (1, (DO, DO)), (1, (DO, WAIT))),
    ((1, (send(1), WAIT)), (1, (send(2),)), (1, (send(3), send(4))), (1, (DO, DO)), (1, (DO, DO))),
] + [random_small_job(seed) for seed in range(40)]

# Jobs of ten steps and more.
GREAT_JOBS = [
    chain(10), chain(5, 2), chain(12), chain(12, 8), TWO_WAITS, MANY_CHILDREN, ALL_AT_ONCE,
    ((1, (DO,) * 7 + (send(1),)), (1, (DO, DO))),
]


def all_below(job, work):
    return [work] + [one for child in children(job, work) for one in all_below(job, child)]


@functools.cache
def needs_of(job):
    """For each step all on which it hangs, by the words of point 6."""
    needs = {}
    for work, (room, steps) in enumerate(job):
        for number, step in enumerate(steps):
            needs[work, number] = {(work, number - 1)} if number else set()
            if step == WAIT:
                for earlier in steps[:number]:
                    if earlier[0] == "send":
                        needs[work, number] |= {(one, len(job[one][1]) - 1) for one in all_below(job, earlier[1])}
    for work, (room, steps) in enumerate(job):
        for number, step in enumerate(steps):
            if step[0] == "send":
                needs[step[1], 0].add((work, number))
    for turn in needs:
        for step in needs:
            needs[step] = needs[step].union(*[needs[other] for other in needs[step]])
    return needs


@functools.cache
def stands_of(job):
    """All sets of steps that hold all on which their steps hang, by trying all sets."""
    needs = needs_of(job)
    steps = sorted(needs)
    found = []
    for many in range(len(steps) + 1):
        for stand in itertools.combinations(steps, many):
            if all(needs[step] <= set(stand) for step in stand):
                found.append(stand)
    return found


def leads(needs, hands, stand, other):
    """Whether a beat leads from one stand to another one."""
    more = set(other) - set(stand)
    return set(stand) <= set(other) and 1 <= len(more) <= hands and all(needs[step] <= set(stand) for step in more)


@functools.cache
def edges_of(job, hands):
    needs, stands = needs_of(job), stands_of(job)
    return [(stand, other) for stand in stands for other in stands if leads(needs, hands, stand, other)]


@functools.cache
def fewest_by_search(job, hands):
    """The fewest beats, beat by beat all stands that can be come to."""
    edges = {}
    for stand, other in edges_of(job, hands):
        edges.setdefault(stand, []).append(other)
    beats, layer = 0, {()}
    while tuple(sorted(needs_of(job))) not in layer:
        layer = {other for stand in layer for other in edges.get(stand, [])}
        beats += 1
    return beats


def are_marks(job, hands, marks):
    if sorted(marks) != sorted(stands_of(job)) or marks[tuple(sorted(needs_of(job)))] != 0:
        return False
    if not all(type(mark) is int and mark >= 0 for mark in marks.values()):
        return False
    return all(marks[stand] <= marks[other] + 1 for stand, other in edges_of(job, hands))


class FewestTest(unittest.TestCase):
    def test_told_pairs(self):
        for at, job in enumerate(JOBS):
            for hands in range(1, 7) if at < 20 else [1 + at % 6]:
                told = fewest(job, hands)
                self.assertIs(type(told), tuple)
                plan, marks = told
                self.assertIs(type(plan), list)
                self.assertIs(type(marks), dict)
                self.assertIs(is_plan(job, hands, plan), True)
                self.assertEqual(len(plan), marks[()])
                self.assertTrue(all(plan))
                self.assert_marks(job, hands, marks)
                self.assertEqual(len(plan), fewest_by_search(job, hands))
                self.assertGreaterEqual(len(plan), bound(job, hands))
                self.assertIs(is_fewest(job, hands, told), True)

    def assert_marks(self, job, hands, marks):
        self.assertTrue(are_marks(job, hands, marks))
        for stand in marks:
            self.assertIs(type(stand), tuple)
            self.assertEqual(stand, tuple(sorted(stand)))
            for step in stand:
                self.assertEqual([type(step), type(step[0]), type(step[1])], [tuple, int, int])

    def test_known_numbers(self):
        self.assertEqual([len(fewest(WIDE, hands)[0]) for hands in range(1, 7)], [9, 6, 6, 6, 6, 6])
        self.assertEqual([len(fewest(NINE_WORKS, hands)[0]) for hands in range(1, 7)], [9] * 6)
        self.assertEqual(fewest(ALONE, 1), ([[(0, 0)]], {(): 1, ((0, 0),): 0}))
        self.assertEqual(fewest(SMALL, 2)[0], [[(0, 0)], [(0, 1), (1, 0)], [(0, 2)]])

    def test_the_fewest_may_be_more_than_the_bound(self):
        # By the first beat only one step can be done, so two hands don't share all eight evenly.
        job = ((1, (send(1), send(2), send(4))), (1, (send(5),)), (1, (send(3),)), (1, (DO,)), (1, (DO,)), (1, (DO,)))
        self.assertEqual((bound(job, 2), len(fewest(job, 2)[0])), (4, 5))
        self.assertEqual((bound(job, 3), len(fewest(job, 3)[0])), (4, 4))
        self.assertEqual(least_hands(job), 3)

    def test_told_things_are_the_askers_own(self):
        first = fewest(WIDE, 2)
        before = copy.deepcopy(first)
        second = fewest(WIDE, 2)
        first[0][0].append("x")
        first[0].clear()
        first[1].clear()
        self.assertEqual(second, before)
        self.assertEqual(fewest(WIDE, 2), before)

    def test_the_job_stays(self):
        for job in JOBS:
            before = copy.deepcopy(job)
            is_fewest(job, 2, fewest(job, 2))
            least_hands(job)
            self.assertEqual(repr(job), repr(before))


class IsFewestTest(unittest.TestCase):
    def look(self, job, hands, thing, expected):
        before = repr(thing)
        self.assertIs(is_fewest(job, hands, thing), expected, before)
        self.assertEqual(repr(thing), before)

    def test_other_marks(self):
        """Each mark one more and one less: the words tell whether they are marks, for the same plan."""
        rights = 0
        for job in JOBS[:20]:
            for hands in (1, 2, 3):
                plan, marks = fewest(job, hands)
                for stand in marks:
                    for more in (-1, 1, -2, 2):
                        bent = {**marks, stand: marks[stand] + more}
                        right = are_marks(job, hands, bent) and bent[()] == len(plan)
                        self.look(job, hands, (plan, bent), right)
                        rights += right
        self.assertGreater(rights, 50)

    def test_marks_much_less_than_the_greatest(self):
        # Marks that fall by the stand's steps alone: right of one hand, and of hands that make no plan shorter.
        for job in [chain(9), NINE_WORKS, ALONE]:
            for hands in (1, 4):
                marks = {stand: len(needs_of(job)) - len(stand) for stand in stands_of(job)}
                self.look(job, hands, (fewest(job, hands)[0], marks), True)
        plan, marks = fewest(WIDE, 2)
        low = {stand: 0 for stand in marks}
        self.assertTrue(are_marks(WIDE, 2, low))
        self.look(WIDE, 2, (plan, low), False)
        # What can be come to from () in k beats needs a mark of at least the mark of () less k.
        needs = needs_of(WIDE)
        least = {stand: 0 for stand in marks}
        least[()] = marks[()]
        for stand in sorted(marks, key=len):
            for other in marks:
                if leads(needs, 2, stand, other):
                    least[other] = max(least[other], least[stand] - 1)
        self.assertNotEqual(least, marks)
        self.look(WIDE, 2, (plan, least), True)
        for stand in marks:
            if least[stand]:
                self.look(WIDE, 2, (plan, {**least, stand: least[stand] - 1}), False)

    def test_the_order_of_keys_does_not_matter(self):
        plan, marks = fewest(WIDE, 2)
        for seed in range(5):
            keys = list(marks)
            random.Random(seed).shuffle(keys)
            self.look(WIDE, 2, (plan, {key: marks[key] for key in keys}), True)

    def test_other_plans(self):
        plan, marks = fewest(SMALL, 1)
        self.assertEqual(len(plan), 4)
        self.look(SMALL, 1, ([[(0, 0)], [(0, 1)], [(1, 0)], [(0, 2)]], marks), True)
        self.look(SMALL, 1, ([[(0, 0)], [(1, 0)], [(0, 1)], [(0, 2)]], marks), True)
        self.look(SMALL, 1, ([[(0, 0)], [(1, 0)], [(0, 2)], [(0, 1)]], marks), False)
        self.look(SMALL, 1, ([[(0, 0)], [(0, 1), (1, 0)], [(0, 2)]], marks), False)

    def test_a_plan_longer_or_shorter_than_the_mark(self):
        plan, marks = fewest(SMALL, 2)
        self.look(SMALL, 2, (plan, marks), True)
        for longer in [[[]] + plan, plan + [[]], [[(0, 0)], [(0, 1)], [(1, 0)], [(0, 2)]]]:
            self.assertIs(is_plan(SMALL, 2, longer), True)
            self.look(SMALL, 2, (longer, marks), False)
            # The mark of () raised to the longer plan is no mark any longer.
            self.look(SMALL, 2, (longer, {**marks, (): 4}), False)
        for mark in (0, 1, 2, 4, 5):
            self.look(SMALL, 2, (plan, {**marks, (): mark}), False)

    def test_a_plan_bent_once(self):
        for job in (SMALL, WIDE, JOBS[10], chain(3, 3)):
            for hands in (1, 2, 3):
                plan, marks = fewest(job, hands)
                for at, beat in enumerate(plan):
                    for bent_beat in [beat[:-1], beat[1:], beat + beat, tuple(beat), [list(step) for step in beat],
                                      beat + [(0, 99)], [(step[0], step[1] + 1) for step in beat], None, beat[0], "beat",
                                      [step + (0,) for step in beat], {step: 0 for step in beat}, [beat]]:
                        self.look(job, hands, (plan[:at] + [bent_beat] + plan[at + 1:], marks), False)
                    self.look(job, hands, (plan[:at] + plan[at + 1:], marks), False)
                    self.look(job, hands, (plan[:at] + [beat] + plan[at:], marks), False)
                for at in range(len(plan) - 1):
                    bent = plan[:at] + [plan[at + 1], plan[at]] + plan[at + 2:]
                    self.look(job, hands, (bent, marks), is_plan(job, hands, bent))

    def test_truths_in_a_plan(self):
        plan, marks = fewest(SMALL, 2)
        self.look(SMALL, 2, ([[(0, False)]] + plan[1:], marks), False)
        self.look(SMALL, 2, ([[(False, 0)]] + plan[1:], marks), False)
        self.look(SMALL, 2, ([plan[0], [(0, True), (1, 0)], plan[2]], marks), False)
        self.look(SMALL, 2, ([plan[0], [(0, 1), (True, 0)], plan[2]], marks), False)

    def test_a_mark_of_another_kind(self):
        for job, hands in [(SMALL, 2), (ALONE, 1), (WIDE, 3)]:
            plan, marks = fewest(job, hands)
            for stand in marks:
                others = [str(marks[stand]), None, (marks[stand],), [marks[stand]], {}, -1, -GREAT, ""]
                if marks[stand] < 2:
                    others.append(bool(marks[stand]))
                for other in others:
                    self.look(job, hands, (plan, {**marks, stand: other}), False)
            for truth in (True, False):
                self.look(job, hands, (plan, {stand: truth for stand in marks}), False)

    def test_marks_of_the_end(self):
        plan, marks = fewest(SMALL, 2)
        end = max(marks, key=len)
        for mark in (1, -1, False, None, GREAT):
            self.look(SMALL, 2, (plan, {**marks, end: mark}), False)
        # All marks one more, the plan as long as the mark of (): the end's mark is none.
        self.look(SMALL, 2, ([[]] + plan, {stand: mark + 1 for stand, mark in marks.items()}), False)

    def test_great_marks(self):
        plan, marks = fewest(WIDE, 2)
        for stand in marks:
            self.look(WIDE, 2, (plan, {**marks, stand: GREAT}), False)

    def test_a_stand_left_out_or_put_to(self):
        for job, hands in [(SMALL, 2), (ALONE, 1), (WIDE, 3)]:
            plan, marks = fewest(job, hands)
            keys = [(0,), ((0,),), ((0, 0, 0),), (((0, 0),),), None, True, False, 0, "()", "", (None,), ((9, 9),), (True,),
                    ((0, 99),), ((0, 0), (0, 0)), ((-1, 0),), ((((((((((0,),),),),),),),),),), ((0, "0"),), (("0", 0),)]
            for stand in marks:
                without = {key: mark for key, mark in marks.items() if key != stand}
                self.look(job, hands, (plan, without), False)
                for key in keys:
                    self.look(job, hands, (plan, {**without, key: marks[stand]}), False)
                if len(stand) > 1:
                    self.look(job, hands, (plan, {**without, stand[::-1]: marks[stand]}), False)
                    self.look(job, hands, (plan, {**marks, stand[::-1]: marks[stand]}), False)
                    self.look(job, hands, (plan, {**without, stand[1:] + stand[:1]: marks[stand]}), False)
            for key in keys:
                self.look(job, hands, (plan, {**marks, key: 0}), False)

    def test_a_set_of_steps_that_is_no_stand(self):
        plan, marks = fewest(SMALL, 2)
        for key in [((0, 1),), ((1, 0),), ((0, 0), (0, 2)), ((0, 0), (0, 1), (0, 2))]:
            self.assertNotIn(key, marks)
            self.look(SMALL, 2, (plan, {**marks, key: 0}), False)
            for stand in marks:
                bent = {other: mark for other, mark in marks.items() if other != stand}
                self.look(SMALL, 2, (plan, {**bent, key: 0}), False)

    def test_keys_with_truths(self):
        plan, marks = fewest(SMALL, 2)
        for stand in marks:
            for at, step in enumerate(stand):
                for bent_step in [(bool(step[0]), step[1]), (step[0], bool(step[1]))]:
                    key = stand[:at] + (bent_step,) + stand[at + 1:]
                    bent = {key if other == stand else other: mark for other, mark in marks.items()}
                    self.look(SMALL, 2, (plan, bent), False)

    def test_lists_for_tuples_and_tuples_for_lists(self):
        for job, hands in [(SMALL, 2), (ALONE, 1), (WIDE, 3)]:
            plan, marks = fewest(job, hands)
            self.look(job, hands, [plan, marks], False)
            self.look(job, hands, (tuple(plan), marks), False)
            self.look(job, hands, (plan, list(marks.items())), False)
            self.look(job, hands, (plan, tuple(marks.items())), False)
            self.look(job, hands, (plan, list(marks)), False)
            self.look(job, hands, {0: plan, 1: marks}, False)

    def test_exchanged_too_many_and_too_few(self):
        for job, hands in [(SMALL, 2), (ALONE, 1), (WIDE, 3)]:
            plan, marks = fewest(job, hands)
            for thing in [(marks, plan), (plan,), (marks,), (), (plan, marks, None), (plan, marks, marks), (plan, plan),
                          (marks, marks), plan, marks, ((plan, marks),), (plan, (marks,)), ([plan], marks), (None, marks),
                          (plan, None), (plan, {}), ([], marks), ([], {}), ([], {(): 0})]:
                self.look(job, hands, thing, False)

    def test_things_of_other_kinds(self):
        for job, hands in [(SMALL, 2), (ALONE, 1)]:
            plan, marks = fewest(job, hands)
            for thing in ANY_THINGS:
                self.look(job, hands, thing, False)
                self.look(job, hands, (thing, thing), False)
                self.look(job, hands, (thing, marks), False)
                self.look(job, hands, (plan, thing), False)
                self.look(job, hands, ([thing], marks), False)
                self.look(job, hands, (plan, {(): thing}), False)

    def test_pairs_for_other_hands(self):
        for job in JOBS[:12]:
            for hands in range(1, 5):
                plan, marks = fewest(job, hands)
                for other in range(1, 5):
                    right = is_plan(job, other, plan) and are_marks(job, other, marks)
                    self.look(job, other, (plan, marks), right)

    def test_great_things(self):
        thing = ([[]] * 3000 + [[(0, 0)]], {((0, number),): number for number in range(3000)})
        self.look(ALONE, 1, thing, False)
        deep = ()
        for turn in range(18):
            deep = (deep,)
        self.look(ALONE, 1, ([[(0, 0)]], {(): 1, deep: 0}), False)
        self.look(ALONE, 1, ([[(0, 0)]], {deep: 1, ((0, 0),): 0}), False)


class LeastHandsTest(unittest.TestCase):
    def test_known_numbers(self):
        self.assertEqual([least_hands(job) for job in [ALONE, SMALL, NINE_WORKS, chain(9)]], [1, 2, 1, 1])
        self.assertEqual(least_hands(WIDE), 2)
        # All three works begin late, and no hand is free to go ahead.
        job = ((1, (send(1), send(2), send(3))), (1, (DO, DO)), (1, (DO,)), (1, (DO,)))
        self.assertEqual(least_hands(job), 2)
        job = ((1, (send(1), send(2), send(3))), (1, (DO, DO, DO)), (1, (DO, DO)), (1, (DO,)))
        self.assertEqual(least_hands(job), 3)

    def test_by_search(self):
        numbers = set()
        for job in JOBS:
            needs = needs_of(job)
            longest = 1 + max(len(chain_to(needs, step)) for step in needs)
            told = least_hands(job)
            self.assertIs(type(told), int)
            self.assertEqual(fewest_by_search(job, told), longest)
            if told > 1:
                self.assertGreater(fewest_by_search(job, told - 1), longest)
            numbers.add(told)
        self.assertLessEqual({1, 2, 3}, numbers)


def chain_to(needs, step):
    """The longest row of steps ahead of a step, each hanging on the one ahead."""
    rows = [chain_to(needs, other) + [other] for other in needs[step]]
    return max(rows, key=len, default=[])


class NoSizeTest(unittest.TestCase):
    def refused(self, asked):
        assert_refused(self, NoSize, asked)

    def test_ten_steps_and_more(self):
        for job in GREAT_JOBS:
            self.assertGreaterEqual(sum(len(steps) for room, steps in job), 10)
            for hands in range(1, 7):
                self.refused(lambda: fewest(job, hands))
            self.refused(lambda: least_hands(job))
            for thing in ANY_THINGS + [fewest(SMALL, 2), ([], {}), {(): 0}]:
                self.refused(lambda: is_fewest(job, 2, thing))

    def test_nine_steps_are_not_refused(self):
        for job in JOBS:
            self.assertLessEqual(sum(len(steps) for room, steps in job), 9)
        nine = [job for job in JOBS if sum(len(steps) for room, steps in job) == 9]
        self.assertGreater(len(nine), 5)
        self.assertEqual({len(job) for job in JOBS}, set(range(1, 10)))
        for job in nine:
            fewest(job, 1)
            least_hands(job)
            self.assertIs(is_fewest(job, 1, None), False)


if __name__ == "__main__":
    unittest.main()
