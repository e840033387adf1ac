import copy
import os
import random
import sys
import unittest

sys.path.insert(0, os.path.dirname(os.path.abspath(__file__)))

from deeds_by_words import SMALL_TRIES, Game, all_weavings, plays, random_full_weaving
from farend.ends import walked
from farend.errors import FarError, NoTurn
from samples import ANY_THINGS, GREAT

TAKE = ("take",)


def lay(x):
    return ("lay", x)


class WalkedTest(unittest.TestCase):
    def test_a_play_without_deeds(self):
        self.assertEqual(walked(((), ()), ()), ([[]], []))
        self.assertEqual(walked(((), (0,)), ()), ([[], []], []))
        self.assertEqual(walked(((), (0, 0)), ()), ([[], [], []], []))
        self.assertEqual(walked(((), (1,)), (1, 1)), ([[], [None]], []))
        self.assertEqual(walked(((), (1, 2)), (1, 2, 2, 1, 2, 2)), ([[], [None], [None, None]], []))

    def test_an_empty_weaving(self):
        self.assertEqual(walked(((lay(5), TAKE), (1, 1)), ()), ([[], [], []], []))

    def test_lays(self):
        play = ((lay(5), lay(-6), lay(5)), ())
        lefts = [[], [], [5], [5], [5, -6], [5, -6], [5, -6, 5]]
        for many, left in enumerate(lefts):
            self.assertEqual(walked(play, (0,) * many), ([[]], left))

    def test_a_take_that_gets_by_itself(self):
        play = ((lay(1), lay(2), TAKE), ())
        self.assertEqual(walked(play, (0,) * 4), ([[]], [1, 2]))
        # In the middle of the take near is one less already.
        self.assertEqual(walked(play, (0,) * 5), ([[]], [1]))
        self.assertEqual(walked(play, (0,) * 6), ([[]], [1]))
        self.assertEqual(walked(play, (0,) * 7), ([[2]], [1]))
        self.refused(play, (0,) * 8, 7)

    def test_a_take_of_the_last_thing(self):
        play = ((lay(1), TAKE), ())
        # Box near is read third, far is one more fourth, near is f and one fifth.
        for many, told in [(2, ([[]], [1])), (3, ([[]], [])), (4, ([[]], [])), (5, ([[]], [])), (6, ([[]], [])), (7, ([[1]], []))]:
            self.assertEqual(walked(play, (0,) * many), told)
        self.refused(play, (0,) * 8, 7)

    def test_a_take_of_an_empty_heap(self):
        play = ((TAKE, lay(3)), ())
        for many in range(3):
            self.assertEqual(walked(play, (0,) * many), ([[]], []))
        self.assertEqual(walked(play, (0,) * 3), ([[None]], []))
        self.assertEqual(walked(play, (0,) * 5), ([[None]], [3]))
        self.refused(play, (0,) * 6, 5)

    def test_a_take_that_gets_the_last_thing_as_a_thief_looks(self):
        play = ((lay(1), TAKE), (1,))
        # The thief has read far, near and the box, the owner is first at far, and the thief has lost.
        weaving = (0, 0, 1, 1, 1, 0, 0, 0, 0, 1, 0)
        self.assertEqual(walked(play, weaving[:9]), ([[], []], []))
        self.assertEqual(walked(play, weaving[:10]), ([[], ["lost"]], []))
        self.assertEqual(walked(play, weaving), ([[1], ["lost"]], []))

    def test_a_take_that_gets_nothing_because_a_thief_was_first_at_far(self):
        play = ((lay(1), TAKE), (1,))
        weaving = (0, 0, 1, 1, 1, 0, 0, 0, 1, 0, 0)
        # Near is below far in the middle of the take: nothing lies there.
        self.assertEqual(walked(play, weaving[:9]), ([[], [1]], []))
        self.assertEqual(walked(play, weaving[:10]), ([[], [1]], []))
        self.assertEqual(walked(play, weaving), ([[None], [1]], []))

    def test_a_take_that_gets_nothing_because_a_thief_was_first_ahead_of_it(self):
        play = ((lay(1), TAKE, lay(2)), (1,))
        weaving = (0, 0, 1, 1, 1, 0, 1, 0, 0)
        self.assertEqual(walked(play, weaving[:7]), ([[], [1]], []))
        self.assertEqual(walked(play, weaving), ([[None], [1]], []))
        # Near is f again, so what is laid then lies above far.
        self.assertEqual(walked(play, weaving + (0, 0)), ([[None], [1]], [2]))

    def test_boxes_are_laid_into_anew(self):
        play = ((lay(1), lay(2), TAKE, lay(3)), (2,))
        weaving = (0, 0, 0, 0, 0, 0, 0)
        self.assertEqual(walked(play, weaving + (0,)), ([[2], []], [1]))
        self.assertEqual(walked(play, weaving + (0, 0)), ([[2], []], [1, 3]))
        self.assertEqual(walked(play, weaving + (0, 0) + (1,) * 8), ([[2], [1, 3]], []))

    def test_tries_that_get_are_missed_and_are_lost(self):
        play = ((lay(1), lay(2)), (3, 1))
        ahead = (0, 0, 0, 0)
        self.assertEqual(walked(play, (1, 1) + ahead), ([[], [None], []], [1, 2]))
        self.assertEqual(walked(play, ahead + (1, 1, 1)), ([[], [], []], [1, 2]))
        self.assertEqual(walked(play, ahead + (1, 1, 1, 1)), ([[], [1], []], [2]))
        self.assertEqual(walked(play, ahead + (1, 2, 1, 2, 1, 2, 1)), ([[], [1], []], [2]))
        self.assertEqual(walked(play, ahead + (1, 2, 1, 2, 1, 2, 1, 2)), ([[], [1], ["lost"]], [2]))
        self.assertEqual(walked(play, ahead + (1,) * 10), ([[], [1, 2, None], []], []))

    def test_near_is_read_second(self):
        # Far is read ahead of the lay, near behind it: the thing is got.
        self.assertEqual(walked(((lay(1),), (1,)), (1, 0, 0, 1, 1, 1)), ([[], [1]], []))
        # Near isn't one more yet.
        self.assertEqual(walked(((lay(1),), (1,)), (1, 0, 1)), ([[], [None]], []))
        # Near is one less already, so a thief finds nothing where one thing lies.
        self.assertEqual(walked(((lay(1), TAKE), (1,)), (0, 0, 0, 1, 1)), ([[], [None]], []))

    def test_the_same_thing_laid_twice(self):
        self.assertEqual(walked(((lay(4), lay(4), TAKE), (1,)), (0,) * 7 + (1,) * 4), ([[4], [4]], []))

    def test_great_and_small_numbers(self):
        for x in (0, -1, GREAT, -GREAT):
            self.assertEqual(walked(((lay(x), TAKE), ()), (0,) * 7), ([[x]], []))
            self.assertEqual(walked(((lay(x),), (1,)), (0, 0, 1, 1, 1, 1)), ([[], [x]], []))

    def test_all_weavings_of_small_plays(self):
        many = 0
        for play in plays(2, [(), (0,), (1,), (2,), (1, 1), (0, 1)]):
            if (play[0], play[1]) == ((TAKE, TAKE), (2,)) or len(play[0]) == 2 and play[1] == (1, 1):
                continue
            for weaving in all_weavings(play):
                self.assertEqual(walked(play, weaving), Game(play, weaving).outcome())
                many += 1
        self.assertGreater(many, 1000)

    def test_random_weavings_of_great_plays_and_their_beginnings(self):
        chance = random.Random(1)
        for turn in range(400):
            deeds = tuple(chance.choice([lay(chance.randint(-9, 9)), TAKE]) for deed in range(chance.randint(0, 6)))
            play = (deeds, tuple(chance.randint(0, 3) for thief in range(chance.randint(0, 2))))
            weaving = random_full_weaving(play, chance)
            game = Game(play)
            for place, who in enumerate(weaving):
                self.assertEqual(walked(play, weaving[:place]), game.outcome())
                game.move(who)
            self.assertEqual(walked(play, weaving), game.outcome())
            self.look_over(walked(play, weaving))

    def look_over(self, told):
        self.assertIs(type(told), tuple)
        self.assertEqual([type(part) for part in told], [list, list])
        for row in told[0]:
            self.assertIs(type(row), list)

    def test_more_than_the_limits(self):
        play = (tuple(lay(x) for x in range(9)), (5, 0, 4))
        weaving = (0,) * 18 + (1,) * 20 + (3,) * 16
        self.assertEqual(walked(play, weaving), ([[], [0, 1, 2, 3, 4], [], [5, 6, 7, 8]], []))

    def refused(self, play, weaving, place):
        before = repr(weaving)
        with self.assertRaises(NoTurn) as caught:
            walked(play, weaving)
        self.assertIs(type(caught.exception), NoTurn)
        self.assertIsInstance(caught.exception, FarError)
        self.assertIs(type(caught.exception.place), int)
        self.assertEqual(caught.exception.place, place, weaving)
        self.assertEqual(repr(weaving), before)

    def test_no_small_deed_left(self):
        self.refused(((), ()), (0,), 0)
        self.refused(((), (0,)), (1,), 0)
        self.refused(((), (1,)), (1, 1, 1), 2)
        self.refused(((), (1, 1)), (1, 1, 1), 2)
        self.refused(((lay(1),), (1,)), (0, 0, 1, 0, 1), 3)
        self.refused(((lay(1),), (1,)), (0, 0, 1, 1, 1, 1, 1, 0), 6)
        self.refused(((TAKE,), ()), (0, 0, 0, 0), 3)
        chance = random.Random(2)
        for play in plays(3, SMALL_TRIES):
            weaving = random_full_weaving(play, chance)
            for who in range(4):
                self.refused(play, weaving + (who,), len(weaving))
                self.refused(play, weaving + (who, None, 0), len(weaving))

    def test_what_is_no_mover(self):
        play = ((lay(1), TAKE), (1, 1))
        wrong = [3, 4, -1, -2, -3, GREAT, -GREAT] + [
            thing for thing in ANY_THINGS if repr(thing) not in ("0", "1", "2")
        ] + ["0", "1", [0], (1,), [1], {0: 1}]
        for thing in wrong:
            self.refused(play, (thing,), 0)
            self.refused(play, (0, thing), 1)
            self.refused(play, (0, 1, 2, thing, 0), 3)
            self.refused(play, (0, 1, 2, thing, None), 3)
            self.refused(play, (0, 0, thing, thing), 2)

    def test_truths(self):
        play = ((lay(1), TAKE), (1, 1))
        for truth in (True, False):
            self.refused(play, (0, truth), 1)
            self.refused(play, (truth, 0), 0)

    def test_thieves_that_are_not_there(self):
        self.refused(((lay(1),), ()), (0, 1), 1)
        self.refused(((lay(1),), (2,)), (0, 1, 2), 2)
        self.refused(((lay(1),), (2, 0)), (0, 1, 2), 2)
        self.refused(((lay(1),), (0, 2)), (0, 2, 1), 2)
        self.refused(((lay(1),), (2, 2)), (0, 3), 1)

    def test_the_first_one_where_several_are_none(self):
        self.refused(((lay(1),), (1,)), (0, 0, 0, None, "x"), 2)
        self.refused(((lay(1),), (1,)), (0, None, 0, 0, 0), 1)
        self.refused(((lay(1),), (1,)), (-1, True, 0, 0, 0), 0)

    def test_told_lists_are_the_askers_own(self):
        play, weaving = ((lay(1), lay(2), lay(3)), (1, 1)), (0, 0, 0, 0, 0, 0, 1, 1, 1, 1)
        first, second = walked(play, weaving), walked(play, weaving)
        before = copy.deepcopy(second)
        for row in first[0]:
            row.append("x")
        first[0].append("y")
        first[1].clear()
        self.assertEqual(second, before)
        self.assertEqual(walked(play, weaving), before)
        second[0][0].append(1)
        self.assertEqual(second[0][2], [])

    def test_what_is_handed_in_stays(self):
        play, weaving = ((lay(1), TAKE), (2,)), (0, 0, 1, 1, 0)
        before = copy.deepcopy((play, weaving))
        walked(play, weaving)
        self.assertEqual((play, weaving), before)


if __name__ == "__main__":
    unittest.main()
