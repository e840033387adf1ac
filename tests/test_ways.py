import os
import subprocess
import sys
import unittest

HERE = os.path.dirname(os.path.abspath(__file__))
sys.path.insert(0, HERE)

from farend.jobs import below, is_job, parents
from farend.ways import all_hangs, hangs, longest, road, whole
from samples import ALONE, DO, MANY_CHILDREN, TWO_WAITS, WAIT, chain, random_job, send

# Told by a way that goes along each row anew, these would take far longer than anybody waits.
SOON = 60


def steps_of(job):
    return [(work, number) for work in range(len(job)) for number in range(len(job[work][1]))]


def hangs_by_hand(job, step):
    """Point 6 word by word, each other step of the job looked at."""
    work, number = step
    found = set()
    for other, (room, steps) in enumerate(job):
        for at, deed in enumerate(steps):
            if other == work and at == number - 1:
                found.add((other, at))
            if number == 0 and deed == send(work):
                found.add((other, at))
    if job[work][1][number] == WAIT:
        for deed in job[work][1][:number]:
            if deed[0] == "send":
                found |= {(other, len(job[other][1]) - 1) for other in below(job, deed[1])}
    return sorted(found)


def closed_by_hand(job):
    """All on which each step hangs, by going around till nothing is added."""
    reach = {step: set(hangs_by_hand(job, step)) for step in steps_of(job)}
    grown = True
    while grown:
        grown = False
        for step, found in reach.items():
            more = set().union(*[reach[other] for other in found]) - found
            if more:
                found |= more
                grown = True
    return reach


def longest_by_hand(job):
    """Each round takes away the steps that hang on none left: rounds are the longest way."""
    left = closed_by_hand(job)
    rounds = 0
    while left:
        first = {step for step in left if not left[step]}
        left = {step: left[step] - first for step in left if step not in first}
        rounds += 1
    return rounds


class HangsTest(unittest.TestCase):
    def test_the_first_step_of_all_hangs_on_none(self):
        self.assertEqual(hangs(ALONE, (0, 0)), [])
        self.assertEqual(all_hangs(ALONE, (0, 0)), [])
        self.assertEqual(hangs(chain(12, 8), (0, 0)), [])

    def test_the_step_ahead_in_its_work(self):
        job = ((1, (DO,) * 8),)
        for number in range(1, 8):
            self.assertEqual(hangs(job, (0, number)), [(0, number - 1)])
            self.assertEqual(all_hangs(job, (0, number)), [(0, at) for at in range(number)])

    def test_a_first_step_and_the_one_that_sends_it_off(self):
        self.assertEqual(hangs(TWO_WAITS, (1, 0)), [(0, 1)])
        self.assertEqual(hangs(TWO_WAITS, (2, 0)), [(0, 3)])
        self.assertEqual(hangs(TWO_WAITS, (3, 0)), [(1, 1)])
        self.assertEqual(all_hangs(TWO_WAITS, (3, 0)), [(0, 0), (0, 1), (1, 0), (1, 1)])

    def test_a_wait_ahead_of_any_send(self):
        self.assertEqual(hangs(TWO_WAITS, (0, 0)), [])
        job = ((1, (DO, WAIT, send(1))), (1, (WAIT, DO)))
        self.assertEqual(hangs(job, (0, 1)), [(0, 0)])
        self.assertEqual(hangs(job, (1, 0)), [(0, 2)])
        self.assertEqual(all_hangs(job, (1, 1)), [(0, 0), (0, 1), (0, 2), (1, 0)])

    def test_two_waits_in_one_work(self):
        self.assertEqual(hangs(TWO_WAITS, (0, 2)), [(0, 1), (1, 2), (3, 3)])
        self.assertEqual(hangs(TWO_WAITS, (0, 3)), [(0, 2)])
        self.assertEqual(hangs(TWO_WAITS, (0, 4)), [(0, 3)])
        self.assertEqual(hangs(TWO_WAITS, (0, 5)), [(0, 4), (1, 2), (2, 1), (3, 3)])

    def test_a_wait_does_not_hang_on_works_sent_off_later(self):
        later = [step for step in all_hangs(TWO_WAITS, (0, 2)) if step[0] == 2]
        self.assertEqual(later, [])
        job = ((1, (send(1), WAIT, send(2))), (1, (DO,)), (1, (DO,)))
        self.assertEqual(hangs(job, (0, 1)), [(0, 0), (1, 0)])
        self.assertEqual(hangs(job, (2, 0)), [(0, 2)])
        self.assertEqual(all_hangs(job, (2, 0)), [(0, 0), (0, 1), (0, 2), (1, 0)])

    def test_a_child_that_does_not_wait_for_its_own(self):
        self.assertEqual(all_hangs(TWO_WAITS, (1, 2)), [(0, 0), (0, 1), (1, 0), (1, 1)])
        self.assertEqual(
            all_hangs(TWO_WAITS, (0, 2)),
            [(0, 0), (0, 1), (1, 0), (1, 1), (1, 2), (3, 0), (3, 1), (3, 2), (3, 3)],
        )
        self.assertEqual(all_hangs(TWO_WAITS, (0, 5)), [step for step in steps_of(TWO_WAITS) if step != (0, 5)])

    def test_many_children(self):
        lasts = [(work, work - 1) for work in range(1, 8)]
        self.assertEqual(hangs(MANY_CHILDREN, (0, 7)), [(0, 6)] + lasts)
        self.assertEqual(all_hangs(MANY_CHILDREN, (0, 6)), [(0, number) for number in range(6)])

    def test_told_rising_where_sends_fall(self):
        job = ((1, (send(2), send(1), WAIT)), (1, (send(4), DO)), (1, (send(3), DO)), (1, (DO,)), (1, (DO,)))
        self.assertIs(is_job(job), True)
        self.assertEqual(hangs(job, (0, 2)), [(0, 1), (1, 1), (2, 1), (3, 0), (4, 0)])

    def test_random_jobs_by_hand(self):
        for seed in range(150):
            job = random_job(seed)
            reach = closed_by_hand(job)
            for step in steps_of(job):
                self.assertEqual(hangs(job, step), hangs_by_hand(job, step), (job, step))
                self.assertEqual(all_hangs(job, step), sorted(reach[step]), (job, step))
                self.assertNotIn(step, all_hangs(job, step))

    def test_just_lists_of_pairs_of_numbers(self):
        for told in [hangs(TWO_WAITS, (0, 5)), all_hangs(TWO_WAITS, (0, 5))]:
            self.assertIs(type(told), list)
            for step in told:
                self.assertIs(type(step), tuple)
                self.assertEqual([type(one) for one in step], [int, int])

    def test_each_list_is_new_and_the_askers_own(self):
        job = chain(12, 8)
        for ask in [lambda: hangs(job, (0, 7)), lambda: all_hangs(job, (0, 7)), lambda: hangs(job, (0, 0))]:
            first = ask()
            kept = list(first)
            first.append("more")
            first[0] = "other"
            self.assertEqual(ask(), kept)
        self.assertEqual(job, chain(12, 8))
        self.assertEqual(longest(job), 96)


class MeasuresTest(unittest.TestCase):
    def test_one_work_alone(self):
        self.assertEqual((whole(ALONE), longest(ALONE), road(ALONE)), (1, 1, 5))
        job = ((9, (DO, WAIT) * 4),)
        self.assertEqual((whole(job), longest(job), road(job)), (8, 8, 9))

    def test_a_chain_of_twelve_works(self):
        rooms = sum(range(1, 10)) + 1 + 2 + 3
        self.assertEqual((whole(chain(12)), longest(chain(12)), road(chain(12))), (12, 12, rooms))
        self.assertEqual((whole(chain(12, 8)), longest(chain(12, 8)), road(chain(12, 8))), (96, 96, rooms))

    def test_many_children(self):
        self.assertEqual(whole(MANY_CHILDREN), 8 + sum(range(1, 8)))
        self.assertEqual(longest(MANY_CHILDREN), 7 + 7 + 1)
        self.assertEqual(road(MANY_CHILDREN), 2 + 7)

    def test_two_waits(self):
        # 0's first three steps with 1's two and 3's four between them, then 2's two ahead of the last wait.
        self.assertEqual(whole(TWO_WAITS), 15)
        self.assertEqual(longest(TWO_WAITS), 2 + 2 + 4 + 1 + 1 + 2 + 1)
        self.assertEqual(road(TWO_WAITS), 4 + 1 + 9)

    def test_the_longest_way_need_not_end_in_the_last_step_of_work_0(self):
        job = ((1, (send(1), DO)), (1, (DO,) * 5))
        self.assertEqual(longest(job), 6)
        job = ((1, (send(1), DO, DO, DO)), (1, (DO,)))
        self.assertEqual(longest(job), 4)

    def test_the_road_need_not_go_to_the_deepest_nor_the_last(self):
        job = ((1, (send(1), send(2))), (9, (DO,)), (2, (send(3),)), (3, (DO,)))
        self.assertEqual(road(job), 10)
        job = ((1, (send(1), send(2))), (3, (DO,)), (2, (send(3),)), (3, (DO,)))
        self.assertEqual(road(job), 6)

    def test_random_jobs_by_hand(self):
        for seed in range(150):
            job = random_job(seed)
            self.assertEqual(whole(job), len(steps_of(job)))
            self.assertEqual(longest(job), longest_by_hand(job), job)
            self.assertEqual(road(job), max(rooms_up(job, work) for work in range(len(job))), job)

    def test_just_numbers(self):
        for measure in [whole, longest, road]:
            for job in [ALONE, TWO_WAITS, chain(12, 8)]:
                self.assertIs(type(measure(job)), int)

    def test_somewhat_beyond_the_limits(self):
        self.assertEqual((whole(chain(15, 10)), longest(chain(15, 10))), (150, 150))
        self.assertEqual(len(all_hangs(chain(15, 10), (0, 9))), 149)


def rooms_up(job, work):
    return job[work][0] + (0 if work == 0 else rooms_up(job, parents(job)[work]))


class SoonTest(unittest.TestCase):
    """Twelve works of eight steps, in a run of its own that is cut off, so slow code fails here."""

    def told_soon(self, code):
        head = "from samples import chain\nfrom farend.ways import all_hangs, longest\njob = chain(12, 8)\n"
        paths = [os.path.dirname(HERE), HERE]
        env = dict(os.environ, PYTHONPATH=os.pathsep.join(paths), PYTHONDONTWRITEBYTECODE="1")
        try:
            run = subprocess.run(
                [sys.executable, "-c", head + code], env=env, timeout=SOON, capture_output=True, text=True
            )
        except subprocess.TimeoutExpired:
            self.fail("not told soon")
        self.assertEqual(run.returncode, 0, run.stderr)
        return run.stdout.strip()

    def test_all_hangs(self):
        self.assertEqual(self.told_soon("print(len(all_hangs(job, (0, 7))))"), "95")

    def test_longest(self):
        self.assertEqual(self.told_soon("print(longest(job))"), "96")


if __name__ == "__main__":
    unittest.main()
