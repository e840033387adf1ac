import copy
import os
import sys
import unittest

sys.path.insert(0, os.path.dirname(os.path.abspath(__file__)))

from by_words import room_of
from farend.alone import alone
from farend.ways import all_hangs, road, whole
from samples import ALL_AT_ONCE, ALONE, DEEP_HEAP, DO, MANY_CHILDREN, TWO_WAITS, WAIT, chain, random_job, send


def order_by_words(job, work=0):
    """Behind a send the work sent off till that one has ended, then the step behind."""
    for number, step in enumerate(job[work][1]):
        yield (work, number)
        if step[0] == "send":
            yield from order_by_words(job, step[1])


def most_by_words(job, order):
    """The most room of the works that have begun and not ended, at the beginning and behind each step."""
    return max(room_of(job, order[:many]) for many in range(len(order) + 1))


class AloneTest(unittest.TestCase):
    def test_one_work(self):
        self.assertEqual(alone(ALONE), ([(0, 0)], 5))
        self.assertEqual(alone(((3, (WAIT, DO, WAIT)),)), ([(0, 0), (0, 1), (0, 2)], 3))

    def test_a_chain_of_twelve_works(self):
        order, most = alone(chain(12))
        self.assertEqual(order, [(work, 0) for work in range(12)])
        self.assertEqual(most, sum(range(1, 10)) + 1 + 2 + 3)
        order, most = alone(chain(12, 2))
        down = [(work, 0) for work in range(12)]
        self.assertEqual(order, down + [(work, 1) for work in reversed(range(12))])
        self.assertEqual(len(alone(chain(12, 8))[0]), 96)

    def test_many_children(self):
        expected = []
        for child in range(1, 8):
            expected.append((0, child - 1))
            expected.extend((child, number) for number in range(child))
        self.assertEqual(alone(MANY_CHILDREN), (expected + [(0, 7)], 2 + 7))

    def test_waits_ahead_of_between_and_behind_sends(self):
        self.assertEqual(alone(TWO_WAITS), ([
            (0, 0), (0, 1), (1, 0), (1, 1), (3, 0), (3, 1), (3, 2), (3, 3), (1, 2),
            (0, 2), (0, 3), (2, 0), (2, 1), (0, 4), (0, 5),
        ], 4 + 1 + 9))

    def test_the_work_sent_off_goes_first_though_no_wait_follows(self):
        job = ((1, (send(1), DO, send(2), DO)), (1, (DO, DO)), (1, (DO,)))
        self.assertEqual(alone(job)[0], [(0, 0), (1, 0), (1, 1), (0, 1), (0, 2), (2, 0), (0, 3)])

    def test_children_in_the_order_of_their_sends_not_of_their_numbers(self):
        job = ((1, (send(2), send(1))), (4, (DO,)), (2, (DO,)))
        self.assertEqual(alone(job), ([(0, 0), (2, 0), (0, 1), (1, 0)], 5))

    def test_a_work_lives_till_its_children_have_ended(self):
        # 0 has no step left when 1 begins, and counts all the same.
        self.assertEqual(alone(((7, (send(1),)), (2, (DO,))))[1], 9)
        self.assertEqual(alone(ALL_AT_ONCE)[1], 12)

    def test_a_work_that_has_ended_counts_no_longer(self):
        job = ((1, (send(1), send(2))), (5, (DO,)), (6, (DO,)))
        self.assertEqual(alone(job)[1], 7)

    def test_the_most_need_not_be_at_the_deepest_nor_at_the_last(self):
        job = ((1, (send(1), send(2), DO)), (9, (DO,)), (2, (send(3),)), (3, (DO,)))
        self.assertEqual(alone(job)[1], 10)

    def test_random_jobs_by_words(self):
        for seed in range(150):
            job = random_job(seed)
            order, most = alone(job)
            self.assertEqual(order, list(order_by_words(job)), job)
            self.assertEqual(most, most_by_words(job, order), job)
            self.assertEqual(most, road(job), job)

    def test_each_step_once_behind_all_on_which_it_hangs(self):
        for job in [DEEP_HEAP, TWO_WAITS, MANY_CHILDREN] + [random_job(seed) for seed in range(40)]:
            order = alone(job)[0]
            self.assertEqual(len(order), whole(job))
            self.assertEqual(len(set(order)), whole(job))
            for at, step in enumerate(order):
                self.assertLessEqual(set(all_hangs(job, step)), set(order[:at]))

    def test_just_a_tuple_of_a_list_and_a_number(self):
        for job in [ALONE, TWO_WAITS, chain(12, 8)]:
            told = alone(job)
            self.assertIs(type(told), tuple)
            self.assertEqual([type(one) for one in told], [list, int])
            for step in told[0]:
                self.assertIs(type(step), tuple)
                self.assertEqual([type(one) for one in step], [int, int])

    def test_the_list_is_new_and_the_job_stays(self):
        job = random_job(7)
        before = copy.deepcopy(job)
        first = alone(job)[0]
        kept = list(first)
        first.append("more")
        first[0] = "other"
        self.assertEqual(alone(job)[0], kept)
        self.assertEqual(job, before)

    def test_somewhat_beyond_the_limits(self):
        order, most = alone(chain(15, 10))
        self.assertEqual(len(order), 150)
        self.assertEqual(most, road(chain(15, 10)))


if __name__ == "__main__":
    unittest.main()
