import copy
import itertools
import os
import sys
import unittest

sys.path.insert(0, os.path.dirname(os.path.abspath(__file__)))

from by_words import ByWords
from farend import errors
from farend.alone import alone
from farend.beats import beaten, measured
from farend.errors import FarError, NoOrder
from farend.plans import is_plan
from farend.ways import longest, road, whole
from samples import (
    ALL_AT_ONCE, ALONE, ANY_THINGS, DEEP_HEAP, DO, GREAT, MANY_CHILDREN, TWO_WAITS, WAIT, around, chain, random_job,
    random_order, send,
)


def by_words(job, hands, order):
    """Points 14 and 15 word by word: (beats, taken, most)."""
    yard = ByWords(job, hands)
    beats, taken = [], 0
    while not yard.ended():
        for hand in range(hands):
            if yard.has[hand] is None:
                if yard.heaps[hand]:
                    yard.has[hand] = yard.heaps[hand].pop()
                else:
                    full = [other for other in order[hand] if yard.heaps[other]]
                    if full:
                        yard.has[hand] = yard.heaps[full[0]].pop(0)
                        taken += 1
        beat = []
        for hand in range(hands):
            told = None if yard.has[hand] is None else yard.step(hand, yard.has[hand])[1:]
            beat.append(told)
        beats.append(beat)
    return beats, taken, yard.most


class BeatsTest(unittest.TestCase):
    """Point 14."""

    def test_one_work(self):
        self.assertEqual(beaten(ALONE, 1, ((),)), [[(0, 0)]])
        self.assertEqual(beaten(ALONE, 3, around(3)), [[(0, 0), None, None]])
        self.assertEqual(beaten(((1, (WAIT, DO)),), 2, around(2)), [[(0, 0), None], [(0, 1), None]])

    def test_one_hand_does_the_steps_as_alone(self):
        for seed in range(60):
            job = random_job(seed)
            self.assertEqual(beaten(job, 1, ((),)), [[step] for step in alone(job)[0]])

    def test_takes_go_ahead_of_steps(self):
        # In the beat behind the first send hand 1 takes 0 and does a step of it at once.
        self.assertEqual(beaten(DEEP_HEAP, 2, around(2)), [
            [(0, 0), None], [(1, 0), (0, 1)], [(2, 0), (1, 1)], [(3, 0), (2, 1)], [(3, 1), None],
        ])

    def test_what_is_laid_in_a_beat_is_taken_in_the_next_one(self):
        job = ((1, (send(1), DO)), (1, (DO,)))
        self.assertEqual(beaten(job, 2, around(2)), [[(0, 0), None], [(1, 0), (0, 1)]])

    def test_hand_by_hand_one_heap_is_emptied(self):
        # Hand 1 takes 0 ahead of hand 2, for which nothing is left.
        self.assertEqual(beaten(DEEP_HEAP, 3, around(3))[1], [(1, 0), (0, 1), None])
        job = ((1, (send(1), DO, DO)), (1, (send(2), DO, DO)), (1, (DO,)))
        self.assertEqual(beaten(job, 3, around(3)), [
            [(0, 0), None, None], [(1, 0), (0, 1), None], [(2, 0), (0, 2), (1, 1)], [None, None, (1, 2)],
        ])

    def test_its_own_heap_goes_first(self):
        # Hand 0 ends 2 and takes 1, its own nearest, though another's heap holds 0.
        job = (
            (1, (send(1), send(3), DO)), (1, (send(2), DO, DO)), (1, (DO,)), (1, (send(4), DO)), (1, (DO, DO, DO)),
        )
        beats = beaten(job, 2, around(2))
        self.assertEqual(beats, [
            [(0, 0), None], [(1, 0), (0, 1)], [(2, 0), (3, 0)], [(1, 1), (4, 0)], [(1, 2), (4, 1)],
            [(0, 2), (4, 2)], [(3, 1), None],
        ])

    def test_the_first_heap_that_is_not_empty_in_the_order_of_looking(self):
        # When hand 2 looks in the third beat, the heaps of 0 and of 1 both hold a work.
        job = (
            (1, (send(1), send(3), DO, DO)), (1, (send(2), DO, DO)), (1, (DO, DO, DO)), (1, (DO, DO, DO)),
        )
        rows = ((1, 2), (0, 2))
        self.assertEqual(beaten(job, 3, rows + ((0, 1),))[2], [(2, 0), (3, 0), (1, 1)])
        self.assertEqual(beaten(job, 3, rows + ((1, 0),))[2], [(2, 0), (3, 0), (0, 2)])

    def test_a_hand_that_ends_a_child_does_the_parents_wait_in_the_next_beat(self):
        job = ((1, (send(1), WAIT, DO)), (1, (DO,)))
        self.assertEqual(beaten(job, 2, around(2)), [[(0, 0), None], [(1, 0), None], [(0, 1), None], [(0, 2), None]])

    def test_a_hand_that_stands_at_a_wait_has_none(self):
        job = ((1, (send(1), DO, WAIT)), (1, (DO, DO, DO)))
        self.assertEqual(beaten(job, 2, around(2)), [
            [(0, 0), None], [(1, 0), (0, 1)], [(1, 1), None], [(1, 2), None], [(0, 2), None],
        ])

    def test_beats_till_all_has_ended(self):
        self.assertEqual(beaten(ALL_AT_ONCE, 2, around(2)), [[(work, 0), None] for work in range(12)])
        for seed in range(60):
            job, hands = random_job(seed), 1 + seed % 6
            beats = beaten(job, hands, random_order(seed, hands))
            steps = [step for beat in beats for step in beat if step is not None]
            self.assertEqual((len(steps), len(set(steps))), (whole(job), whole(job)))
            self.assertTrue(all(len(beat) == hands for beat in beats))
            self.assertNotEqual(beats[-1], [None] * hands)

    def test_random_jobs_by_words(self):
        for seed in range(200):
            job, hands = random_job(seed), 1 + seed % 6
            order = random_order(seed, hands)
            beats, taken, most = by_words(job, hands, order)
            self.assertEqual(beaten(job, hands, order), beats, (job, order))
            idle = sum(step is None for beat in beats for step in beat)
            self.assertEqual(measured(job, hands, order), (len(beats), taken, idle, most), (job, order))

    def test_all_orders_of_three_hands(self):
        for seed in range(12):
            job = random_job(seed)
            for order in itertools.product([(1, 2), (2, 1)], [(0, 2), (2, 0)], [(0, 1), (1, 0)]):
                self.assertEqual(beaten(job, 3, order), by_words(job, 3, order)[0])

    def test_beats_are_plans(self):
        for seed in range(60):
            job, hands = random_job(seed), 1 + seed % 6
            beats = beaten(job, hands, random_order(seed, hands))
            plan = [sorted(step for step in beat if step is not None) for beat in beats]
            self.assertIs(is_plan(job, hands, plan), True)

    def test_kinds(self):
        beats = beaten(TWO_WAITS, 3, around(3))
        self.assertIs(type(beats), list)
        for beat in beats:
            self.assertIs(type(beat), list)
            for step in beat:
                self.assertIn(type(step), [tuple, type(None)])
                self.assertEqual({type(one) for one in step or (0,)}, {int})


class MeasuredTest(unittest.TestCase):
    """Point 15."""

    def test_by_hand(self):
        self.assertEqual(measured(ALONE, 1, ((),)), (1, 0, 0, 5))
        self.assertEqual(measured(ALONE, 6, around(6)), (1, 0, 5, 5))
        # Hand 1 takes 0, then 1, then 2; 0 has ended not till 1 has, and so on.
        self.assertEqual(measured(DEEP_HEAP, 2, around(2)), (5, 3, 2, 10))

    def test_own_takes_do_not_count_as_taken(self):
        self.assertEqual(measured(DEEP_HEAP, 1, ((),)), (8, 0, 0, 10))

    def test_the_most_room_is_behind_a_hands_step_not_a_beat(self):
        # In the third beat hand 0 begins 3, of room 9, ahead of hand 1's end of 2, of room 8.
        job = ((1, (send(1), send(2), WAIT)), (1, (DO, send(3))), (8, (DO,)), (9, (DO,)))
        beats = beaten(job, 2, around(2))
        self.assertEqual(beats[:3], [[(0, 0), None], [(1, 0), (0, 1)], [(1, 1), (2, 0)]])
        self.assertEqual(measured(job, 2, around(2))[3], 1 + 1 + 8 + 9)

    def test_hands_times_beats_are_the_whole_and_idle_together(self):
        for seed in range(120):
            job, hands = random_job(seed), 1 + seed % 6
            order = random_order(seed, hands)
            beats, taken, idle, most = measured(job, hands, order)
            self.assertEqual(hands * beats, whole(job) + idle)
            self.assertEqual(beats, len(beaten(job, hands, order)))

    def test_of_one_hand(self):
        for seed in range(80):
            job = random_job(seed)
            self.assertEqual(measured(job, 1, ((),)), (whole(job), 0, 0, road(job)))

    def test_kinds(self):
        for hands in range(1, 7):
            told = measured(MANY_CHILDREN, hands, around(hands))
            self.assertIs(type(told), tuple)
            self.assertEqual([type(one) for one in told], [int] * 4)

    def test_bounds(self):
        for seed in range(200):
            job, hands = random_job(seed), 1 + seed % 6
            beats, taken, idle, most = measured(job, hands, random_order(seed, hands))
            self.assertGreaterEqual(beats, longest(job))
            self.assertGreaterEqual(beats * hands, whole(job))
            self.assertLessEqual(beats * hands, longest(job) * hands + whole(job))
            self.assertLessEqual(most, hands * road(job))


class NoOrderTest(unittest.TestCase):
    def wrong_orders(self):
        """(hands, what is no order of looking for them)."""
        for hands in range(1, 7):
            right = around(hands)
            wrong = list(ANY_THINGS) + [list(right), right + ((),), right + (right[0],), right[:-1], (right,), [right]]
            for hand in range(hands):
                for row in self.wrong_rows(hand, hands, right[hand]):
                    wrong.append(right[:hand] + (row,) + right[hand + 1:])
            for thing in wrong:
                # Of one hand alone this is the order of looking.
                if hands > 1 or thing != ((),):
                    yield hands, thing

    def wrong_rows(self, hand, hands, row):
        rows = [None, True, 0, hand, "", "0", {}, list(row), row + (hand,), (hand,) + row, (row,), row + (hands,), row + (-1,)]
        rows += [row + (None,), row + ((),), {other: other for other in row}, "".join(map(str, row)), row + ("0",)]
        if row:
            rows += [row[1:], row[:-1], row + row[:1], row * 2, (), (hand,) * len(row), row[:1] * (len(row) + 1)]
            for wrong in [hand, hands, -1, GREAT, -GREAT, None, str(row[0]), (row[0],), [row[0]], {}]:
                rows.append((wrong,) + row[1:])
                rows.append(row[:-1] + (wrong,))
        if len(row) > 1:
            rows.append(row[:1] + row[:1] + row[2:])
        return rows

    def test_no_order(self):
        for hands, thing in self.wrong_orders():
            for ask in [beaten, measured]:
                before = repr(thing)
                with self.assertRaises(NoOrder) as caught:
                    ask(TWO_WAITS, hands, thing)
                self.assertIs(type(caught.exception), NoOrder)
                self.assertEqual(repr(thing), before)

    def test_a_truth_is_no_hand(self):
        for order in [((True,), (0,)), ((1,), (False,)), ((1, 2), (False, 2), (0, 1)), ((True, 2), (0, 2), (0, 1))]:
            for ask in [beaten, measured]:
                with self.assertRaises(NoOrder):
                    ask(TWO_WAITS, len(order), order)

    def test_it_is_none_of_the_other_refusals(self):
        with self.assertRaises(FarError) as caught:
            beaten(ALONE, 2, ())
        self.assertIsInstance(caught.exception, ValueError)
        for name in ["NoTurn", "NoText", "NoSize", "NoBack", "NoJob", "NoYard", "NoLine"]:
            self.assertNotIsInstance(caught.exception, getattr(errors, name))

    def test_each_order_is_taken(self):
        for hands in range(1, 5):
            rows = [
                list(itertools.permutations([other for other in range(hands) if other != hand])) for hand in range(hands)
            ]
            for order in itertools.islice(itertools.product(*rows), 300):
                self.assertEqual(beaten(ALONE, hands, order), [[(0, 0)] + [None] * (hands - 1)])
                self.assertEqual(measured(ALONE, hands, order), (1, 0, hands - 1, 5))


class OwnTest(unittest.TestCase):
    def test_lists_are_new_and_what_is_handed_in_stays(self):
        job, order = random_job(2), random_order(2, 4)
        before = copy.deepcopy((job, order))
        first = beaten(job, 4, order)
        kept = copy.deepcopy(first)
        first[0].append("more")
        first[1][0] = "other"
        first.append("more")
        self.assertEqual(beaten(job, 4, order), kept)
        self.assertEqual((job, order), before)

    def test_somewhat_beyond_the_limits(self):
        self.assertEqual(measured(chain(15, 10), 8, around(8))[0], 150)


if __name__ == "__main__":
    unittest.main()
