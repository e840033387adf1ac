import copy
import os
import random
import sys
import unittest

sys.path.insert(0, os.path.dirname(os.path.abspath(__file__)))

from by_words import ByWords, living, room_of
from farend.errors import FarError, NoBack, NoTurn
from farend.turns import woven
from farend.yard import Yard
from samples import (
    ALL_AT_ONCE, ALONE, DEEP_HEAP, DO, MANY_CHILDREN, TWO_WAITS, WAIT, chain, no_turns, random_job, random_weaving, send,
)

LISTS = ["works", "heaps", "standing", "living", "done", "able"]
NUMBERS = ["room", "most"]
QUESTIONS = LISTS + NUMBERS + ["ended"]


def all_told(yard):
    return {name: getattr(yard, name)() for name in QUESTIONS}


def told_by_words(slow):
    hands = sorted(slow.has)
    return {
        "works": [slow.has[hand] for hand in hands],
        "heaps": [slow.heaps[hand] for hand in hands],
        "standing": sorted(slow.standing),
        "living": living(slow.job, slow.done),
        "done": slow.done,
        "able": [hand for hand in hands if slow.has[hand] is not None or slow.heaps[hand]],
        "room": room_of(slow.job, slow.done),
        "most": slow.most,
        "ended": slow.ended(),
    }


class AskedTest(unittest.TestCase):
    def test_a_new_yard(self):
        for hands in range(1, 7):
            for job in [ALONE, TWO_WAITS, chain(12)]:
                self.assertEqual(all_told(Yard(job, hands)), {
                    "works": [0] + [None] * (hands - 1), "heaps": [[] for hand in range(hands)], "standing": [],
                    "living": [0], "done": [], "able": [0], "room": job[0][0], "most": job[0][0], "ended": False,
                })

    def test_behind_some_turns(self):
        yard = Yard(DEEP_HEAP, 3)
        for turn in range(4):
            yard.turn(0, 1)
        self.assertEqual(all_told(yard), {
            "works": [3, None, None], "heaps": [[0, 1, 2], [], []], "standing": [], "living": [0, 1, 2, 3],
            "done": [(0, 0), (1, 0), (2, 0), (3, 0)], "able": [0], "room": 10, "most": 10, "ended": False,
        })
        self.assertEqual(yard.turn(2, 0), ("took", 0, 0))
        self.assertEqual(yard.works(), [3, None, 0])
        self.assertEqual(yard.heaps(), [[1, 2], [], []])
        self.assertEqual(yard.able(), [0, 2])
        yard.turn(0, 2)
        # 3 has ended; its parent lies in the heap, so hand 0 has none and can go on by its heap alone.
        self.assertEqual(yard.works(), [None, None, 0])
        self.assertEqual(yard.able(), [0, 2])
        self.assertEqual((yard.living(), yard.room(), yard.most()), ([0, 1, 2], 6, 10))

    def test_what_stands(self):
        yard = Yard(TWO_WAITS, 2)
        yard.turn(0, 1)
        yard.turn(0, 1)
        self.assertEqual((yard.standing(), yard.works(), yard.heaps()), ([0], [1, None], [[], []]))
        yard.turn(0, 1)
        yard.turn(0, 1)
        self.assertEqual((yard.standing(), yard.works(), yard.heaps()), ([0], [3, None], [[1], []]))
        yard.turn(1, 0)
        yard.turn(1, 0)
        # 1 has no step left and 3 lives, so 1 stands, too.
        self.assertEqual((yard.standing(), yard.works(), yard.heaps()), ([0, 1], [3, None], [[], []]))
        for turn in range(4):
            self.assertEqual(yard.standing(), [0, 1])
            yard.turn(0, 1)
        self.assertEqual((yard.standing(), yard.works(), yard.living()), ([], [0, None], [0]))
        self.assertEqual((yard.room(), yard.most()), (4, 14))

    def test_rising_where_sends_fall(self):
        job = ((1, (send(3), send(2), send(1), WAIT)), (1, (send(4), WAIT)), (1, (send(5), WAIT)), (1, (DO, DO)), (1, (DO,)), (1, (DO,)))
        yard = Yard(job, 3)
        for hand, other in [(0, 1), (1, 0), (1, 0), (1, 0), (2, 1)]:
            yard.turn(hand, other)
        self.assertEqual(yard.works(), [3, 5, 0])
        yard.turn(2, 1)
        yard.turn(2, 1)
        self.assertEqual(yard.living(), [0, 1, 2, 3, 4, 5])
        self.assertEqual(yard.standing(), [0, 1, 2])
        self.assertEqual(yard.able(), [0, 1, 2])
        self.assertEqual(yard.works(), [3, 5, 4])

    def test_steps_done_in_the_order_of_the_turns(self):
        yard = Yard(MANY_CHILDREN, 2)
        for hand, other in [(0, 1), (1, 0), (1, 0), (1, 0), (0, 1)]:
            yard.turn(hand, other)
        self.assertEqual(yard.done(), [(0, 0), (0, 1), (2, 0), (1, 0)])

    def test_behind_the_end(self):
        yard = Yard(ALL_AT_ONCE, 2)
        for turn in range(11):
            yard.turn(0, 1)
        self.assertEqual((yard.ended(), yard.able(), yard.room()), (False, [0], 12))
        yard.turn(0, 1)
        ended = {
            "works": [None, None], "heaps": [[], []], "standing": [], "living": [], "done": [(work, 0) for work in range(12)],
            "able": [], "room": 0, "most": 12, "ended": True,
        }
        self.assertEqual(all_told(yard), ended)
        self.assertEqual(yard.turn(1, 0), ("missed", 0))
        self.assertEqual(yard.turn(0, 1), ("missed", 1))
        self.assertEqual(all_told(yard), ended)

    def test_random_yards_by_words(self):
        for seed in range(120):
            job, hands = random_job(seed), 1 + seed % 6
            yard, slow = Yard(job, hands), ByWords(job, hands)
            for hand, other in random_weaving(seed, hands, 30 + seed):
                self.assertEqual(yard.turn(hand, other), slow.turn(hand, other))
                self.assertEqual(all_told(yard), told_by_words(slow), job)

    def test_turns_tell_what_a_weaving_tells(self):
        for seed in range(40):
            job, hands = random_job(seed), 1 + seed % 6
            weaving = random_weaving(seed, hands, 200)
            yard = Yard(job, hands)
            told = [yard.turn(hand, other) for hand, other in weaving]
            self.assertEqual((told, yard.ended()), woven(job, hands, weaving))

    def test_questions_in_any_order_and_more_than_once(self):
        for seed in range(30):
            chance = random.Random(seed)
            yard = Yard(random_job(seed), 3)
            for hand, other in random_weaving(seed, 3, 40):
                yard.turn(hand, other)
                told = all_told(yard)
                for name in chance.choices(QUESTIONS, k=20):
                    self.assertEqual(getattr(yard, name)(), told[name])

    def test_able_is_empty_just_where_all_has_ended(self):
        for seed in range(60):
            yard = Yard(random_job(seed), 1 + seed % 6)
            for hand, other in random_weaving(seed, 1 + seed % 6, 300):
                self.assertIs(yard.ended(), yard.able() == [])
                yard.turn(hand, other)

    def test_kinds(self):
        yard = Yard(TWO_WAITS, 3)
        for hand, other in random_weaving(4, 3, 80):
            for name in LISTS:
                self.assertIs(type(getattr(yard, name)()), list)
            for name in NUMBERS:
                self.assertIs(type(getattr(yard, name)()), int)
            self.assertIs(type(yard.ended()), bool)
            for heap in yard.heaps():
                self.assertIs(type(heap), list)
            for step in yard.done():
                self.assertIs(type(step), tuple)
            self.assertIs(type(yard.turn(hand, other)), tuple)

    def test_each_method_stands_in_the_class_itself(self):
        for name in QUESTIONS + ["turn", "back", "__init__"]:
            self.assertIn(name, vars(Yard))


class RefusedTest(unittest.TestCase):
    def test_no_turn_and_nothing_is_changed(self):
        for hands in [1, 2, 3, 6]:
            pairs = [thing for thing in no_turns(hands) if isinstance(thing, tuple) and len(thing) == 2]
            self.assertGreater(len(pairs), 20)
            yard = Yard(DEEP_HEAP, hands)
            for hand, other in random_weaving(1, hands, 12):
                before = all_told(yard)
                for wrong in pairs:
                    with self.assertRaises(NoTurn) as caught:
                        yard.turn(*wrong)
                    self.assertEqual((type(caught.exception), caught.exception.place), (NoTurn, 0))
                self.assertEqual(all_told(yard), before)
                yard.turn(hand, other)
            for turn in range(12):
                yard.back()
            with self.assertRaises(NoBack):
                yard.back()

    def test_no_turn_behind_the_end(self):
        yard = Yard(ALONE, 2)
        yard.turn(0, 1)
        with self.assertRaises(NoTurn) as caught:
            yard.turn(1, 1)
        self.assertEqual(caught.exception.place, 0)
        self.assertIs(yard.ended(), True)

    def test_no_back_where_no_turn_stands(self):
        yard = Yard(TWO_WAITS, 2)
        new = all_told(yard)
        for again in range(3):
            with self.assertRaises(NoBack) as caught:
                yard.back()
            self.assertIs(type(caught.exception), NoBack)
            self.assertIsInstance(caught.exception, FarError)
            self.assertEqual(all_told(yard), new)
        yard.turn(0, 1)
        self.assertIsNone(yard.back())
        with self.assertRaises(NoBack):
            yard.back()
        self.assertEqual(all_told(yard), new)
        self.assertEqual(yard.turn(0, 1), ("step", 0, 0))


class BackTest(unittest.TestCase):
    def test_each_turn_is_undone_down_to_a_new_yard(self):
        for seed in range(60):
            job, hands = random_job(seed), 1 + seed % 6
            yard = Yard(job, hands)
            before = []
            for hand, other in random_weaving(seed, hands, 90):
                before.append(all_told(yard))
                yard.turn(hand, other)
            while before:
                self.assertIsNone(yard.back())
                self.assertEqual(all_told(yard), before.pop())
            self.assertEqual(all_told(yard), all_told(Yard(job, hands)))

    def test_the_most_room_goes_back_too(self):
        yard = Yard(DEEP_HEAP, 2)
        for turn in range(3):
            yard.turn(0, 1)
        self.assertEqual(yard.most(), 10)
        yard.back()
        self.assertEqual((yard.room(), yard.most()), (6, 6))

    def test_a_missed_turn_stands_and_is_undone(self):
        yard = Yard(DEEP_HEAP, 2)
        yard.turn(0, 1)
        yard.turn(0, 1)
        behind = all_told(yard)
        yard.turn(0, 1)
        yard.turn(1, 0)
        yard.back()
        yard.back()
        self.assertEqual(all_told(yard), behind)
        yard = Yard(ALONE, 2)
        self.assertEqual(yard.turn(1, 0), ("missed", 0))
        self.assertEqual(yard.turn(0, 1), ("step", 0, 0))
        self.assertEqual(yard.turn(0, 1), ("missed", 1))
        yard.back()
        self.assertIs(yard.ended(), True)
        yard.back()
        self.assertIs(yard.ended(), False)
        yard.back()
        with self.assertRaises(NoBack):
            yard.back()

    def test_turns_and_backs_mixed(self):
        for seed in range(60):
            chance = random.Random(seed)
            job, hands = random_job(seed), chance.randint(1, 6)
            yard = Yard(job, hands)
            stand = []
            for turn in random_weaving(seed, hands, 150):
                if stand and chance.random() < 0.45:
                    stand.pop()
                    yard.back()
                else:
                    stand.append(turn)
                    yard.turn(*turn)
            anew = Yard(job, hands)
            for turn in stand:
                anew.turn(*turn)
            self.assertEqual(all_told(yard), all_told(anew))
            # What goes on from here goes on the same.
            for turn in random_weaving(seed + 1000, hands, 60):
                self.assertEqual(yard.turn(*turn), anew.turn(*turn))
            self.assertEqual(all_told(yard), all_told(anew))

    def test_hundreds_of_turns(self):
        weaving = random_weaving(9, 6, 900)
        yard = Yard(chain(12, 8), 6)
        before = []
        for turn in weaving:
            before.append(all_told(yard))
            yard.turn(*turn)
        self.assertIs(yard.ended(), True)
        for told in reversed(before):
            yard.back()
            self.assertEqual(all_told(yard), told)
        with self.assertRaises(NoBack):
            yard.back()


class OwnTest(unittest.TestCase):
    def test_two_yards_do_not_touch_each_other(self):
        job = random_job(3)
        first, second = Yard(job, 3), Yard(job, 3)
        new = all_told(second)
        weaving = random_weaving(3, 3, 40)
        for turn in weaving:
            first.turn(*turn)
        self.assertEqual(all_told(second), new)
        behind = all_told(first)
        for turn in weaving[:7]:
            second.turn(*turn)
        second.back()
        self.assertEqual(all_told(first), behind)

    def test_the_job_stays(self):
        job = random_job(4)
        before = copy.deepcopy(job)
        yard = Yard(job, 4)
        for turn in random_weaving(4, 4, 100):
            yard.turn(*turn)
        yard.back()
        self.assertEqual(job, before)

    def test_each_list_is_new_and_the_askers_own(self):
        yard = Yard(TWO_WAITS, 3)
        for turn in random_weaving(6, 3, 60):
            told = all_told(yard)
            kept = copy.deepcopy(told)
            for name in LISTS:
                for inner in told[name]:
                    if isinstance(inner, list):
                        inner.append("more")
                told[name].append("more")
                told[name][0] = "other"
            self.assertEqual(all_told(yard), kept)
            yard.turn(*turn)
            yard.back()
            self.assertEqual(all_told(yard), kept)
            yard.turn(*turn)

    def test_a_list_told_is_not_changed_by_later_turns(self):
        yard = Yard(DEEP_HEAP, 3)
        told = all_told(yard)
        kept = copy.deepcopy(told)
        for turn in random_weaving(6, 3, 60):
            yard.turn(*turn)
        self.assertEqual(told, kept)

    def test_somewhat_beyond_the_limits(self):
        yard = Yard(chain(15, 10), 8)
        for turn in random_weaving(1, 8, 3000):
            yard.turn(*turn)
        self.assertEqual((yard.ended(), len(yard.done()), len(yard.works())), (True, 150, 8))


if __name__ == "__main__":
    unittest.main()
