import copy
import os
import sys
import unittest

sys.path.insert(0, os.path.dirname(os.path.abspath(__file__)))

from by_words import ByWords
from farend import errors
from farend.alone import alone
from farend.errors import FarError, NoTurn
from farend.turns import woven
from samples import (
    ALL_AT_ONCE, ALONE, DEEP_HEAP, DO, MANY_CHILDREN, TWO_WAITS, WAIT, chain, no_turns, random_job, random_weaving, send,
)


def told_of(job, hands, weaving):
    return woven(job, hands, weaving)[0]


class FirstTest(unittest.TestCase):
    """Point 9."""

    def test_hand_0_has_work_0(self):
        for hands in range(2, 7):
            self.assertEqual(told_of(TWO_WAITS, hands, [(0, 1)]), [("step", 0, 0)])
        self.assertEqual(told_of(TWO_WAITS, 1, [(0, 0)]), [("step", 0, 0)])

    def test_the_others_have_none_and_all_heaps_are_empty(self):
        for hands in range(2, 7):
            for hand in range(1, hands):
                for other in range(hands):
                    if other != hand:
                        self.assertEqual(told_of(TWO_WAITS, hands, [(hand, other)]), [("missed", other)])

    def test_ended_only_when_all_steps_are_done(self):
        job = ((1, (DO, DO, WAIT)),)
        self.assertEqual([woven(job, 2, [(0, 1)] * many)[1] for many in range(5)], [False, False, False, True, True])

    def test_ended_only_when_the_children_have_ended(self):
        job = ((1, (send(1), DO)), (1, (DO, DO)))
        weaving = [(0, 1), (1, 0), (1, 0), (0, 1), (0, 1)]
        self.assertEqual(told_of(job, 2, weaving), [
            ("step", 0, 0), ("took", 0, 0), ("step", 0, 1), ("step", 1, 0), ("step", 1, 1),
        ])
        ends = [woven(job, 2, weaving[:many])[1] for many in range(6)]
        self.assertEqual(ends, [False] * 5 + [True])

    def test_ended_only_when_childrens_children_have_ended(self):
        for many in range(12):
            self.assertIs(woven(ALL_AT_ONCE, 3, [(0, 2)] * many)[1], False)
        self.assertIs(woven(ALL_AT_ONCE, 3, [(0, 2)] * 12)[1], True)


class TurnTest(unittest.TestCase):
    """Point 10."""

    def test_by_a_send_the_child_is_the_hands_work(self):
        self.assertEqual(told_of(DEEP_HEAP, 2, [(0, 1)] * 4), [
            ("step", 0, 0), ("step", 1, 0), ("step", 2, 0), ("step", 3, 0),
        ])

    def test_the_parent_lies_in_the_hands_heap(self):
        self.assertEqual(told_of(DEEP_HEAP, 2, [(0, 1), (1, 0)])[1], ("took", 0, 0))

    def test_taken_from_the_far_end_by_others_from_the_near_one_by_oneself(self):
        weaving = [(0, 1)] * 5 + [(1, 0), (0, 1), (2, 0), (2, 0), (2, 0)]
        self.assertEqual(told_of(DEEP_HEAP, 3, weaving)[5:], [
            ("took", 0, 0), ("own", 2), ("took", 1, 0), ("step", 1, 1), ("missed", 0),
        ])

    def test_a_parent_whose_next_step_is_a_wait_stands(self):
        job = ((1, (send(1), WAIT, DO)), (1, (DO, DO)))
        self.assertEqual(told_of(job, 2, [(0, 1), (1, 0), (0, 1), (1, 0)]), [
            ("step", 0, 0), ("missed", 0), ("step", 1, 0), ("missed", 0),
        ])

    def test_a_parent_without_a_step_left_stands(self):
        job = ((1, (send(1),)), (1, (DO, DO)))
        self.assertEqual(told_of(job, 2, [(0, 1), (1, 0), (0, 1), (1, 0)]), [
            ("step", 0, 0), ("missed", 0), ("step", 1, 0), ("missed", 0),
        ])

    def test_a_parent_that_stood_is_the_hands_work_at_once(self):
        job = ((1, (send(1), WAIT, DO)), (1, (DO,)))
        self.assertEqual(told_of(job, 2, [(0, 1)] * 4), [
            ("step", 0, 0), ("step", 1, 0), ("step", 0, 1), ("step", 0, 2),
        ])
        self.assertEqual(told_of(job, 2, [(0, 1), (0, 1), (1, 0)])[2], ("missed", 0))

    def test_a_work_stands_at_a_wait_where_a_child_lives(self):
        job = ((1, (send(1), DO, WAIT, DO)), (1, (DO, DO)))
        weaving = [(0, 1), (1, 0), (1, 0), (1, 0), (0, 1), (1, 0), (0, 1), (1, 0), (0, 1), (0, 1)]
        self.assertEqual(told_of(job, 2, weaving), [
            ("step", 0, 0), ("took", 0, 0), ("step", 0, 1), ("missed", 0), ("step", 1, 0), ("missed", 0),
            ("step", 1, 1), ("missed", 0), ("step", 0, 2), ("step", 0, 3),
        ])
        self.assertIs(woven(job, 2, weaving)[1], True)

    def test_a_work_goes_on_at_a_wait_where_no_child_lives(self):
        job = ((1, (WAIT, send(1), DO, WAIT)), (1, (DO,)))
        self.assertEqual(told_of(job, 2, [(0, 1), (0, 1), (0, 1), (1, 0), (1, 0), (1, 0)]), [
            ("step", 0, 0), ("step", 0, 1), ("step", 1, 0), ("took", 0, 0), ("step", 0, 2), ("step", 0, 3),
        ])

    def test_who_ends_the_last_child_goes_on_with_the_parent(self):
        # 1 and 2 are both sent off; whoever ends the later one has 0, also a hand that never had it.
        job = ((1, (send(1), send(2), WAIT)), (1, (DO,)), (1, (DO,)))
        start = [(0, 1), (1, 0), (1, 0)]
        told = [("step", 0, 0), ("took", 0, 0), ("step", 0, 1)]
        self.assertEqual(told_of(job, 2, start + [(1, 0), (0, 1), (1, 0), (0, 1)]), told + [
            ("step", 2, 0), ("step", 1, 0), ("missed", 0), ("step", 0, 2),
        ])
        self.assertEqual(told_of(job, 2, start + [(0, 1), (1, 0), (0, 1), (1, 0)]), told + [
            ("step", 1, 0), ("step", 2, 0), ("missed", 1), ("step", 0, 2),
        ])

    def test_a_hand_whose_works_parent_is_another_hands_work_has_none(self):
        job = ((1, (send(1), DO, DO)), (1, (DO,)))
        self.assertEqual(told_of(job, 2, [(0, 1), (1, 0), (0, 1), (0, 1), (1, 0), (1, 0)]), [
            ("step", 0, 0), ("took", 0, 0), ("step", 1, 0), ("missed", 1), ("step", 0, 1), ("step", 0, 2),
        ])

    def test_settled_anew_several_times_on_end(self):
        # When 3 ends, 2 and 1 have no step left and end with it, and 0's wait is the next step.
        job = ((1, (send(1), WAIT)), (1, (send(2),)), (1, (send(3),)), (1, (DO,)))
        self.assertEqual(woven(job, 2, [(0, 1)] * 5), ([
            ("step", 0, 0), ("step", 1, 0), ("step", 2, 0), ("step", 3, 0), ("step", 0, 1),
        ], True))
        self.assertEqual(woven(ALL_AT_ONCE, 6, [(0, 5)] * 13), (
            [("step", work, 0) for work in range(12)] + [("missed", 5)], True,
        ))

    def test_settled_anew_up_to_a_parent_with_another_living_child(self):
        # 2 ends and so does 1, but 3 lives still, so 0 stands on till 3's end.
        job = ((1, (send(1), send(3), WAIT)), (1, (send(2),)), (1, (DO,)), (1, (DO,)))
        weaving = [(0, 1), (0, 1), (1, 0), (1, 0), (0, 1), (0, 1), (1, 0), (1, 0)]
        self.assertEqual(woven(job, 2, weaving), ([
            ("step", 0, 0), ("step", 1, 0), ("took", 0, 0), ("step", 0, 1), ("step", 2, 0), ("missed", 1),
            ("step", 3, 0), ("step", 0, 2),
        ], True))

    def test_its_own_heap_goes_first(self):
        # Hand 1 has 0 taken and laid it into its own heap; hand 0's heap holds 1.
        job = ((1, (send(1), send(3), DO)), (1, (send(2), DO)), (1, (DO, DO)), (1, (DO,)))
        weaving = [(0, 1), (0, 1), (1, 0), (1, 0), (1, 0), (1, 0), (1, 0), (1, 0)]
        self.assertEqual(told_of(job, 2, weaving), [
            ("step", 0, 0), ("step", 1, 0), ("took", 0, 0), ("step", 0, 1), ("step", 3, 0), ("own", 0),
            ("step", 0, 2), ("took", 1, 0),
        ])

    def test_a_take_does_no_step(self):
        weaving = [(0, 1), (1, 0), (1, 0)]
        self.assertEqual(told_of(DEEP_HEAP, 2, weaving)[1:], [("took", 0, 0), ("step", 0, 1)])

    def test_the_other_hands_own_work_is_never_taken(self):
        self.assertEqual(told_of(ALONE, 2, [(1, 0), (0, 1)]), [("missed", 0), ("step", 0, 0)])
        weaving = [(0, 1)] * 4 + [(1, 0), (2, 0), (3, 0), (4, 0)]
        self.assertEqual(told_of(DEEP_HEAP, 5, weaving)[4:], [
            ("took", 0, 0), ("took", 1, 0), ("took", 2, 0), ("missed", 0),
        ])

    def test_only_the_heap_that_is_looked_at(self):
        self.assertEqual(told_of(DEEP_HEAP, 3, [(0, 1), (1, 2), (2, 1), (2, 0)])[1:], [
            ("missed", 2), ("missed", 1), ("took", 0, 0),
        ])

    def test_random_weavings_by_words(self):
        words = set()
        for seed in range(250):
            job = random_job(seed)
            hands = 1 + seed % 6
            weaving = random_weaving(seed, hands, 40 + 3 * seed)
            slow = ByWords(job, hands)
            expected = [slow.turn(hand, other) for hand, other in weaving]
            self.assertEqual(woven(job, hands, weaving), (expected, slow.ended()), (job, weaving))
            words |= {told[0] for told in expected}
        self.assertEqual(words, {"step", "own", "took", "missed"})


class WeavingTest(unittest.TestCase):
    """Point 11."""

    def test_an_empty_weaving(self):
        for hands in range(1, 7):
            self.assertEqual(woven(TWO_WAITS, hands, []), ([], False))

    def test_one_hand_alone_looks_at_itself(self):
        told, ended = woven(DEEP_HEAP, 1, [(0, 0)] * 12)
        self.assertEqual(told, [
            ("step", 0, 0), ("step", 1, 0), ("step", 2, 0), ("step", 3, 0), ("step", 3, 1), ("own", 2), ("step", 2, 1),
            ("own", 1), ("step", 1, 1), ("own", 0), ("step", 0, 1), ("missed", 0),
        ])
        self.assertIs(ended, True)

    def test_one_hand_does_the_steps_as_alone(self):
        for seed in range(60):
            job = random_job(seed)
            told, ended = woven(job, 1, [(0, 0)] * 130)
            self.assertIs(ended, True)
            self.assertEqual([row[1:] for row in told if row[0] == "step"], alone(job)[0])

    def test_a_weaving_that_does_not_come_to_the_end(self):
        told, ended = woven(MANY_CHILDREN, 2, [(0, 1), (1, 0)])
        self.assertEqual(told, [("step", 0, 0), ("took", 0, 0)])
        self.assertIs(ended, False)

    def test_behind_the_end_each_turn_is_missed(self):
        for hands in range(2, 7):
            behind = [(hand, other) for hand in range(hands) for other in range(hands) if hand != other]
            told, ended = woven(ALONE, hands, [(0, 1)] + behind)
            self.assertEqual(told, [("step", 0, 0)] + [("missed", other) for hand, other in behind])
            self.assertIs(ended, True)
        self.assertEqual(woven(ALONE, 1, [(0, 0)] * 3), ([("step", 0, 0), ("missed", 0), ("missed", 0)], True))

    def test_hundreds_of_turns(self):
        around = [(hand, (hand + 1) % 6) for hand in range(6)] * 100
        told, ended = woven(chain(12, 8), 6, around)
        self.assertEqual((len(told), ended), (600, True))
        self.assertEqual(len([row for row in told if row[0] == "step"]), 96)

    def test_kinds(self):
        for weaving in [[], [(0, 1)], [(0, 1)] * 4 + [(1, 0), (0, 1)], random_weaving(3, 3, 300)]:
            answer = woven(DEEP_HEAP, 3, weaving)
            self.assertIs(type(answer), tuple)
            self.assertEqual([type(one) for one in answer], [list, bool])
            for row in answer[0]:
                self.assertIs(type(row), tuple)
                self.assertIs(type(row[0]), str)
                self.assertEqual({type(one) for one in row[1:]}, {int})

    def test_what_is_handed_in_stays_and_what_is_told_is_new(self):
        job, weaving = random_job(5), random_weaving(5, 4, 60)
        before = copy.deepcopy((job, weaving))
        first = woven(job, 4, weaving)
        kept = copy.deepcopy(first)
        self.assertEqual((job, weaving), before)
        first[0].append("more")
        first[0][0] = "other"
        self.assertEqual(woven(job, 4, weaving), kept)
        weaving.clear()
        self.assertEqual(woven(job, 4, before[1]), kept)

    def test_somewhat_beyond_the_limits(self):
        weaving = random_weaving(1, 8, 3000)
        told, ended = woven(chain(15, 10), 8, weaving)
        self.assertIs(ended, True)
        self.assertEqual(len([row for row in told if row[0] == "step"]), 150)


class NoTurnTest(unittest.TestCase):
    """Point 11: refusals."""

    def refused(self, job, hands, weaving):
        before = copy.deepcopy(weaving)
        with self.assertRaises(NoTurn) as caught:
            woven(job, hands, weaving)
        self.assertEqual(repr(weaving), repr(before))
        self.assertIs(type(caught.exception), NoTurn)
        self.assertIs(type(caught.exception.place), int)
        return caught.exception.place

    def test_no_turn_at_first(self):
        for hands in range(1, 7):
            for thing in no_turns(hands):
                self.assertEqual(self.refused(TWO_WAITS, hands, [thing]), 0, (hands, thing))

    def test_no_turn_behind_turns(self):
        for hands in [1, 2, 3, 6]:
            for thing in no_turns(hands):
                ahead = random_weaving(2, hands, 5)
                self.assertEqual(self.refused(TWO_WAITS, hands, ahead + [thing] + ahead), 5, (hands, thing))

    def test_the_first_one_of_several(self):
        for hands in [1, 2, 4]:
            for thing in no_turns(hands):
                ahead = random_weaving(2, hands, 3)
                self.assertEqual(self.refused(TWO_WAITS, hands, ahead + [thing] + ahead + [None, thing]), 3)

    def test_behind_the_end_of_all(self):
        for hands in [1, 2, 5]:
            for thing in no_turns(hands):
                ahead = [(0, 1 if hands > 1 else 0)] * 9
                self.assertEqual(self.refused(ALONE, hands, ahead + [thing]), 9)

    def test_each_turn_is_taken(self):
        for hands in range(2, 7):
            for hand in range(hands):
                for other in range(hands):
                    if hand != other:
                        self.assertEqual(len(told_of(TWO_WAITS, hands, [(hand, other)])), 1)

    def test_one_hand_has_no_other(self):
        self.assertEqual(self.refused(TWO_WAITS, 1, [(0, 0), (0, 1)]), 1)
        self.assertEqual(self.refused(TWO_WAITS, 2, [(0, 1), (0, 0)]), 1)

    def test_it_is_none_of_the_other_refusals(self):
        with self.assertRaises(FarError) as caught:
            woven(ALONE, 2, [(0, 0)])
        self.assertIsInstance(caught.exception, ValueError)
        for name in ["NoText", "NoOrder", "NoSize", "NoBack", "NoJob", "NoYard", "NoLine"]:
            self.assertNotIsInstance(caught.exception, getattr(errors, name))


if __name__ == "__main__":
    unittest.main()
