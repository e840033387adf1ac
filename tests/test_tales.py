import os
import sys
import unittest

sys.path.insert(0, os.path.dirname(os.path.abspath(__file__)))

from by_words import ByWords
from farend.tales import wrong_at
from farend.turns import woven
from samples import ALONE, ANY_THINGS, DEEP_HEAP, DO, GREAT, TWO_WAITS, WAIT, chain, random_job, random_weaving, send


def tale_of(job, hands, weaving):
    told = woven(job, hands, weaving)[0]
    return [(hand, what) for (hand, other), what in zip(weaving, told)]


def rows_that_go_on(yard, hands):
    """Each row that may be told next, as a text, with the yard behind it: each turn of each hand is tried."""
    turns = [(hand, other) for hand in range(hands) for other in range(hands) if hand != other] or [(0, 0)]
    found = {}
    for hand, other in turns:
        after = yard.copied()
        found[repr((hand, after.turn(hand, other)))] = after
    return found


def wrong_by_words(job, hands, thing):
    """Texts of things are alike only where the things are just alike."""
    yard = ByWords(job, hands)
    for at, row in enumerate(thing):
        found = rows_that_go_on(yard, hands)
        if repr(row) not in found:
            return at
        yard = found[repr(row)]
    return None


def broken(row, hands):
    """Rows near a right one that aren't it."""
    hand, what = row
    others = [((hand + 1) % 7, what), (-1, what), (hands, what), (GREAT, what), (None, what), (str(hand), what)]
    others += [(bool(hand), what), ((hand,), what), [hand, what], (hand,), (what,), (hand, what, what), (hand, what, None)]
    others += [(hand, list(what)), (hand, what + (0,)), (hand, what[:-1]), (hand, what[1:]), (hand, ()), (hand, None)]
    others += [(hand, (word,) + what[1:]) for word in ("step", "own", "took", "missed", "Step", "", None, 0)]
    for at in range(1, len(what)):
        for number in (what[at] + 1, what[at] - 1, bool(what[at]), str(what[at]), None, [what[at]], GREAT, -GREAT):
            others.append((hand, what[:at] + (number,) + what[at + 1:]))
    return [other for other in others if repr(other) != repr(row)]


class RightTest(unittest.TestCase):
    def test_none_at_all(self):
        for hands in range(1, 7):
            self.assertIsNone(wrong_at(TWO_WAITS, hands, []))

    def test_a_tale_by_hand(self):
        tale = [
            (0, ("step", 0, 0)), (0, ("step", 1, 0)), (1, ("took", 0, 0)), (0, ("step", 2, 0)), (2, ("missed", 1)),
            (2, ("took", 1, 0)), (0, ("step", 3, 0)), (0, ("step", 3, 1)), (0, ("own", 2)), (1, ("step", 0, 1)),
        ]
        for many in range(len(tale) + 1):
            self.assertIsNone(wrong_at(DEEP_HEAP, 3, tale[:many]))

    def test_told_weavings_and_their_beginnings(self):
        for seed in range(80):
            job, hands = random_job(seed), 1 + seed % 6
            tale = tale_of(job, hands, random_weaving(seed, hands, 60 + 2 * seed))
            for many in range(0, len(tale) + 1, 7):
                self.assertIsNone(wrong_at(job, hands, tale[:many]))
            self.assertIsNone(wrong_at(job, hands, tale))

    def test_one_hand_alone(self):
        tale = tale_of(DEEP_HEAP, 1, [(0, 0)] * 14)
        self.assertIn((0, ("own", 2)), tale)
        self.assertEqual(tale[-1], (0, ("missed", 0)))
        self.assertIsNone(wrong_at(DEEP_HEAP, 1, tale))

    def test_rows_behind_the_end(self):
        tale = [(0, ("step", 0, 0)), (1, ("missed", 0)), (0, ("missed", 1)), (2, ("missed", 1))]
        self.assertIsNone(wrong_at(ALONE, 3, tale))
        self.assertEqual(wrong_at(ALONE, 3, tale + [(0, ("step", 0, 1))]), 4)
        self.assertEqual(wrong_at(ALONE, 3, tale + [(0, ("step", 0, 0))]), 4)
        self.assertEqual(wrong_at(ALONE, 3, tale + [(0, ("own", 0))]), 4)
        self.assertEqual(wrong_at(ALONE, 3, tale + [(1, ("took", 0, 0))]), 4)
        self.assertEqual(wrong_at(ALONE, 3, tale + [(0, ("missed", 0))]), 4)


class WrongTest(unittest.TestCase):
    def test_each_row_broken_in_many_ways(self):
        for seed in range(24):
            job, hands = random_job(seed), 1 + seed % 6
            tale = tale_of(job, hands, random_weaving(seed, hands, 40))
            yard = ByWords(job, hands)
            for at, row in enumerate(tale):
                found = rows_that_go_on(yard, hands)
                for other in broken(row, hands):
                    thing = tale[:at] + [other] + tale[at + 1:]
                    before = repr(thing)
                    told = wrong_at(job, hands, thing)
                    if repr(other) not in found:
                        self.assertEqual(told, at, thing)
                        self.assertIs(type(told), int)
                    else:
                        # Another look, or another hand, may tell the broken row just as well.
                        self.assertTrue(told is None or told > at, thing)
                    self.assertEqual(repr(thing), before)
                yard = found[repr(row)]

    def test_rows_left_out_twice_and_exchanged_by_words(self):
        for seed in range(24):
            job, hands = random_job(seed), 1 + seed % 6
            tale = tale_of(job, hands, random_weaving(seed, hands, 35))
            things = []
            for at in range(seed % 9, len(tale) - 1, 9):
                things.append(tale[:at] + tale[at + 1:])
                things.append(tale[:at] + [tale[at]] + tale[at:])
                things.append(tale[:at] + [tale[at + 1], tale[at]] + tale[at + 2:])
                things.append([((hand + 1) % hands, what) if row == at else (hand, what) for row, (hand, what) in enumerate(tale)])
            for thing in things:
                self.assertEqual(wrong_at(job, hands, thing), wrong_by_words(job, hands, thing), thing)

    def test_a_row_left_out_twice_exchanged(self):
        tale = [(0, ("step", 0, 0)), (1, ("took", 0, 0)), (0, ("step", 1, 0)), (1, ("step", 0, 1))]
        self.assertIsNone(wrong_at(DEEP_HEAP, 2, tale))
        self.assertEqual(wrong_at(DEEP_HEAP, 2, tale[1:]), 0)
        self.assertEqual(wrong_at(DEEP_HEAP, 2, tale[:1] + tale[2:]), 2)
        self.assertEqual(wrong_at(DEEP_HEAP, 2, tale[:1] * 2 + tale[1:]), 1)
        self.assertEqual(wrong_at(DEEP_HEAP, 2, tale[:2] * 2), 2)
        self.assertEqual(wrong_at(DEEP_HEAP, 2, [tale[1], tale[0]]), 0)
        # What these two do hangs on no order between them.
        self.assertIsNone(wrong_at(DEEP_HEAP, 2, [tale[0], tale[2], tale[1], tale[3]]))

    def test_any_things_as_rows(self):
        for hands in [1, 2, 6]:
            ahead = [(0, ("step", 0, 0))]
            for thing in ANY_THINGS:
                self.assertEqual(wrong_at(TWO_WAITS, hands, [thing]), 0, thing)
                self.assertEqual(wrong_at(TWO_WAITS, hands, ahead + [thing, thing]), 1, thing)
                self.assertEqual(wrong_at(TWO_WAITS, hands, ahead + [(0, thing)]), 1, thing)
                self.assertEqual(wrong_at(TWO_WAITS, hands, ahead + [(thing, ("step", 0, 1))]), None if repr(thing) == "0" else 1)

    def test_a_truth_is_no_number(self):
        self.assertEqual(wrong_at(ALONE, 2, [(False, ("step", 0, 0))]), 0)
        self.assertEqual(wrong_at(ALONE, 2, [(0, ("step", False, 0))]), 0)
        self.assertEqual(wrong_at(ALONE, 2, [(0, ("step", 0, False))]), 0)
        self.assertEqual(wrong_at(ALONE, 2, [(True, ("missed", 0))]), 0)
        self.assertEqual(wrong_at(ALONE, 2, [(1, ("missed", False))]), 0)
        ahead = [(0, ("step", 0, 0))]
        self.assertEqual(wrong_at(DEEP_HEAP, 2, ahead + [(1, ("took", False, 0))]), 1)
        self.assertEqual(wrong_at(DEEP_HEAP, 2, ahead + [(1, ("took", 0, False))]), 1)
        self.assertEqual(wrong_at(DEEP_HEAP, 2, ahead + [(0, ("step", True, 0))]), 1)
        own = [(0, ("step", 0, 0)), (0, ("step", 1, 0))]
        job = ((1, (send(1), DO)), (1, (DO,)))
        self.assertIsNone(wrong_at(job, 2, own + [(0, ("own", 0))]))
        self.assertEqual(wrong_at(job, 2, own + [(0, ("own", False))]), 2)


class LooksTest(unittest.TestCase):
    def test_a_tooks_other(self):
        ahead = [(0, ("step", 0, 0))]
        self.assertIsNone(wrong_at(DEEP_HEAP, 3, ahead + [(1, ("took", 0, 0))]))
        for other in [1, 2, 3, -1, -3, GREAT, None, "0", (0,), True]:
            self.assertEqual(wrong_at(DEEP_HEAP, 3, ahead + [(1, ("took", 0, other))]), 1, other)

    def test_a_misseds_other(self):
        for other in [0, 2]:
            self.assertIsNone(wrong_at(DEEP_HEAP, 3, [(1, ("missed", other))]))
        for other in [1, 3, 4, -1, -2, GREAT, None, "0", True, False, [0]]:
            self.assertEqual(wrong_at(DEEP_HEAP, 3, [(1, ("missed", other))]), 0, other)

    def test_a_missed_where_the_heap_is_not_empty(self):
        ahead = [(0, ("step", 0, 0))]
        self.assertEqual(wrong_at(DEEP_HEAP, 3, ahead + [(1, ("missed", 0))]), 1)
        self.assertIsNone(wrong_at(DEEP_HEAP, 3, ahead + [(1, ("missed", 2))]))

    def test_a_missed_where_the_hand_has_a_work_or_a_heap(self):
        self.assertEqual(wrong_at(DEEP_HEAP, 3, [(0, ("missed", 1))]), 0)
        job = ((1, (send(1), DO)), (1, (DO,)))
        ahead = [(0, ("step", 0, 0)), (0, ("step", 1, 0))]
        self.assertEqual(wrong_at(job, 2, ahead + [(0, ("missed", 1))]), 2)
        self.assertEqual(wrong_at(job, 2, ahead + [(0, ("took", 0, 0))]), 2)
        self.assertIsNone(wrong_at(job, 2, ahead + [(0, ("own", 0))]))

    def test_one_hand_alone_looks_at_0_itself(self):
        ahead = [(0, ("step", 0, 0))]
        self.assertIsNone(wrong_at(ALONE, 1, ahead + [(0, ("missed", 0))] * 2))
        self.assertEqual(wrong_at(ALONE, 1, ahead + [(0, ("missed", 1))]), 1)
        self.assertEqual(wrong_at(ALONE, 1, ahead + [(0, ("missed", False))]), 1)
        self.assertEqual(wrong_at(ALONE, 1, ahead + [(1, ("missed", 0))]), 1)
        self.assertEqual(wrong_at(ALONE, 2, ahead + [(0, ("missed", 0))]), 1)

    def test_a_step_and_an_own_take_hang_on_no_look(self):
        tale = [(0, ("step", 0, 0)), (0, ("step", 1, 0)), (0, ("own", 0)), (0, ("step", 0, 1))]
        job = ((1, (send(1), DO)), (1, (DO,)))
        for hands in range(1, 7):
            self.assertIsNone(wrong_at(job, hands, tale))


class OwnTest(unittest.TestCase):
    def test_the_list_and_the_job_stay(self):
        job = random_job(8)
        tale = tale_of(job, 4, random_weaving(8, 4, 50)) + [[], {}, [1, [2]]]
        before = repr((job, tale))
        self.assertEqual(wrong_at(job, 4, tale), 50)
        self.assertEqual(wrong_at(job, 4, tale), 50)
        self.assertEqual(repr((job, tale)), before)

    def test_thousands_of_rows(self):
        tale = tale_of(chain(12, 8), 6, random_weaving(1, 6, 3000))
        self.assertIsNone(wrong_at(chain(12, 8), 6, tale))
        self.assertEqual(wrong_at(chain(12, 8), 6, tale + [None]), 3000)

    def test_somewhat_beyond_the_limits(self):
        tale = tale_of(chain(15, 10), 8, random_weaving(1, 8, 500))
        self.assertIsNone(wrong_at(chain(15, 10), 8, tale))
        self.assertEqual(wrong_at(chain(15, 10), 7, tale + [(7, ("missed", 0))]) is None, False)


if __name__ == "__main__":
    unittest.main()
