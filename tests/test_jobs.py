import copy
import os
import sys
import unittest

sys.path.insert(0, os.path.dirname(os.path.abspath(__file__)))

from farend.jobs import below, is_job, parents
from samples import ALONE, DO, MANY_CHILDREN, TWO_WAITS, WAIT, chain, random_job, send


def deep(thing, many):
    for turn in range(many):
        thing = type(thing)([thing])
    return thing


def work(*steps):
    return (1, steps)


class IsJobTest(unittest.TestCase):
    def assert_job(self, thing):
        self.assertIs(is_job(thing), True, repr(thing))

    def assert_none(self, thing):
        before = copy.deepcopy(thing)
        self.assertIs(is_job(thing), False, repr(thing))
        self.assertEqual(repr(thing), repr(before))

    def test_one_work(self):
        self.assert_job(ALONE)
        self.assert_job((work(WAIT),))

    def test_twelve_works_but_not_thirteen(self):
        self.assert_job(chain(12))
        self.assert_job(chain(12, 8))
        self.assert_none(chain(13))
        self.assert_none(chain(14, 8))

    def test_no_works(self):
        self.assert_none(())

    def test_one_to_eight_steps(self):
        self.assert_job((work(DO),))
        self.assert_job((work(*[DO, WAIT] * 4),))
        self.assert_job((work(send(1)), work(*[DO] * 8)))
        self.assert_none((work(),))
        self.assert_none((work(*[DO] * 9),))
        self.assert_none((work(send(1)), work()))
        self.assert_none((work(send(1)), work(*[WAIT] * 9)))

    def test_rooms_from_one_to_nine(self):
        for room in range(1, 10):
            self.assert_job(((room, (DO,)),))
        for room in [0, 10, -1, 10 ** 29, -10 ** 29, True, False, None, "1", "", (1,), [1], {1: 1}]:
            self.assert_none(((room, (DO,)),))
            self.assert_none(((1, (send(1),)), (room, (DO,))))

    def test_steps_of_another_word_kind_or_length(self):
        wrong = [
            ("go",), ("Do",), ("do ",), ("",), (), ("send",), ("wait", "wait"), ("do", 1), ("wait", 1), ("do", None),
            ("send", 1, 1), ("send", "1"), ("send", None), ("send", (1,)), ("send", [1]), ("sent", 1), (1, "send"),
            (1,), (None,), (True,), ((),), (("do",),), (["do"],), ({},), "do", "wait", "send", "d", 1, True, None,
            {}, {"do": 1}, ["do"], ["wait"], ["send", 1], [], {0: "do"}, ({}, 1), ([], 1), (("send",), 1),
        ]
        for step in wrong:
            self.assert_none((work(step),))
            self.assert_none((work(DO, step), ))
            self.assert_none((work(send(1)), work(step)))
            self.assert_none((work(step, send(1)), work(DO)))
            self.assert_none((work(step), work(DO)))

    def test_a_truth_is_no_works_number(self):
        self.assert_job((work(send(1)), work(DO)))
        self.assert_none((work(send(True)), work(DO)))
        self.assert_none((work(send(False)), work(DO)))
        self.assert_none((work(send(1), send(True)), work(DO)))

    def test_sends_only_to_later_works(self):
        self.assert_none((work(send(0)),))
        self.assert_none((work(send(0), send(1)), work(DO)))
        self.assert_none((work(send(1)), work(send(0))))
        self.assert_none((work(send(1)), work(send(1))))
        self.assert_none((work(DO), work(send(1))))
        self.assert_none((work(send(2)), work(DO), work(send(1))))
        self.assert_none((work(send(1)), work(DO), work(send(2))))

    def test_sends_only_to_works_that_are_there(self):
        self.assert_none((work(send(1)),))
        self.assert_none((work(send(1), send(2)), work(DO)))
        self.assert_none((work(send(1), send(10 ** 29)), work(DO)))
        self.assert_none((work(send(-1)), work(DO)))
        self.assert_none((work(send(1), send(-1)), work(DO)))
        self.assert_none((work(send(1), send(-10 ** 29)), work(DO)))

    def test_sent_off_twice(self):
        self.assert_none((work(send(1), send(1)), work(DO)))
        self.assert_none((work(send(1), send(2)), work(send(2)), work(DO)))
        self.assert_none((work(send(1), send(1)), work(DO), work(DO)))

    def test_sent_off_by_none(self):
        self.assert_none((work(DO), work(DO)))
        self.assert_none((work(send(2)), work(DO), work(DO)))
        self.assert_none((work(send(1)), work(DO), work(DO)))

    def test_lists_for_tuples(self):
        self.assert_none([(1, (DO,))])
        self.assert_none(([1, (DO,)],))
        self.assert_none(((1, [DO]),))
        self.assert_none(((1, (["do"],)),))
        self.assert_none(((1, (["send", 1],)), (1, (DO,))))
        self.assert_none(((1, (send(1),)), [1, (DO,)]))

    def test_things_more_or_less(self):
        self.assert_none(((1, (DO,), 1),))
        self.assert_none(((1, (DO,), ()),))
        self.assert_none(((1,),))
        self.assert_none((((DO,),),))
        self.assert_none(((),))
        self.assert_none((((DO,), 1),))
        self.assert_none((1, (DO,)))

    def test_other_things(self):
        number = 123456789012345678901234567890
        for thing in [
            None, True, False, 0, 1, -1, number, -number, "", "job", "do\n\t~", (1,), ("do",), DO, [], [[]], {},
            {"job": ALONE}, {0: ALONE[0]}, [ALONE], (ALONE,), (None,), (number,), (True,), ("",), ("ab",), ({},), ([],),
            deep((), 19), deep([], 19), (1, (deep((), 17),)), ((1, (deep((), 16),)),), ((1, deep((), 17)),),
            ((1, {"do": 1}),), ((1, {0: DO}),), ((1, "do"),), (({}, {}),), ({1: (DO,)},), "1" * 1000, (0,) * 12, ((),) * 5,
            [None] * 9999, (None,) * 9999, ((1, (DO,) * 9000),), {key: key for key in range(4000)},
        ]:
            self.assert_none(thing)

    def test_random_jobs_and_what_is_broken_in_them(self):
        for seed in range(200):
            job = random_job(seed)
            self.assert_job(job)
            self.assert_none(list(job))
            self.assert_none(job + ((1, (DO,)),))
            self.assert_none(job[:-1])
            for at, (room, steps) in enumerate(job):
                self.assert_none(job[:at] + ((0, steps),) + job[at + 1:])
                self.assert_none(job[:at] + ((room, list(steps)),) + job[at + 1:])
                self.assert_none(job[:at] + ((room, steps + (send(at),)),) + job[at + 1:])

    def test_asked_twice_it_tells_the_same(self):
        for thing in [ALONE, chain(12), [], None]:
            self.assertIs(is_job(thing), is_job(thing))


class TreeTest(unittest.TestCase):
    def test_parents(self):
        self.assertEqual(parents(ALONE), [None])
        self.assertEqual(parents(chain(12)), [None] + list(range(11)))
        self.assertEqual(parents(MANY_CHILDREN), [None] + [0] * 7)
        self.assertEqual(parents(TWO_WAITS), [None, 0, 0, 1])

    def test_below(self):
        self.assertEqual(below(ALONE, 0), [0])
        self.assertEqual([below(TWO_WAITS, at) for at in range(4)], [[0, 1, 2, 3], [1, 3], [2], [3]])
        for at in range(12):
            self.assertEqual(below(chain(12), at), list(range(at, 12)))
        self.assertEqual(below(MANY_CHILDREN, 0), list(range(8)))
        for at in range(1, 8):
            self.assertEqual(below(MANY_CHILDREN, at), [at])

    def test_below_rises_where_sends_fall(self):
        job = (work(send(3), send(1), send(2)), work(send(5)), work(send(4)), work(DO), work(DO), work(DO))
        self.assertIs(is_job(job), True)
        self.assertEqual(parents(job), [None, 0, 0, 0, 2, 1])
        self.assertEqual(below(job, 0), [0, 1, 2, 3, 4, 5])
        self.assertEqual(below(job, 1), [1, 5])
        self.assertEqual(below(job, 2), [2, 4])

    def test_random_jobs_climbed_by_hand(self):
        for seed in range(100):
            job = random_job(seed)
            elders = parents(job)
            self.assertIsNone(elders[0])
            for child in range(1, len(job)):
                self.assertIn(send(child), job[elders[child]][1])
            for top in range(len(job)):
                self.assertEqual(below(job, top), [at for at in range(len(job)) if climbs_to(elders, at, top)])

    def test_just_lists_of_numbers(self):
        for told in [parents(TWO_WAITS)[1:], below(TWO_WAITS, 0)]:
            self.assertIs(type(told), list)
            self.assertEqual({type(one) for one in told}, {int})

    def test_each_list_is_new_and_the_askers_own(self):
        job = chain(12)
        for ask in [lambda: parents(job), lambda: below(job, 0), lambda: below(job, 11)]:
            first = ask()
            kept = list(first)
            first.append("more")
            first[0] = "other"
            self.assertEqual(ask(), kept)
        self.assertEqual(job, chain(12))

    def test_somewhat_beyond_the_limits(self):
        self.assertEqual(parents(chain(15, 10)), [None] + list(range(14)))
        self.assertEqual(below(chain(15, 10), 12), [12, 13, 14])


def climbs_to(elders, at, top):
    while at is not None and at != top:
        at = elders[at]
    return at == top


if __name__ == "__main__":
    unittest.main()
