import copy
import os
import sys
import time
import unittest

sys.path.insert(0, os.path.dirname(os.path.abspath(__file__)))

from deeds_by_words import SMALL_TRIES, Game, all_games, plays
from farend.errors import NoSize
from farend.poor import twice
from refusals import assert_refused

TAKE = ("take",)
RULES = ("bare", "blind", "good")


def lay(x):
    return ("lay", x)


def can_be_twice(play, rules):
    return any(len(game.got()) > len(game.laid()) for game, weaving in all_games(play, rules))


class TwiceTest(unittest.TestCase):
    def assert_twice(self, play, rules):
        before = copy.deepcopy(play)
        weaving = twice(play, rules)
        self.assertIs(type(weaving), tuple)
        self.assertEqual({type(who) for who in weaving}, {int})
        game = Game(play, (), rules)
        for who in weaving:
            self.assertIn(who, game.able())
            game.move(who)
        self.assertGreater(len(game.got()), len(game.laid()))
        # So some thing was got twice.
        self.assertGreater(len(game.got()), len(set(game.got())))
        self.assertEqual(play, before)

    def test_bare_without_a_thief(self):
        # Far stays, so the last thing lies there still.
        self.assert_twice(((lay(1), TAKE, TAKE), ()), "bare")
        self.assertIsNone(twice(((lay(1), TAKE, TAKE), ()), "blind"))

    def test_bare_with_a_thief(self):
        self.assert_twice(((lay(1), TAKE), (1,)), "bare")

    def test_blind(self):
        self.assert_twice(((lay(1), TAKE), (1,)), "blind")
        self.assert_twice(((lay(1),), (1, 1)), "blind")
        self.assertIsNone(twice(((lay(1),), (1, 1)), "bare"))

    def test_none(self):
        for rules in RULES:
            for play in [((), ()), ((), (3,)), ((TAKE,) * 4, (3,)), ((lay(1),), ()), ((lay(1), TAKE), ()), ((lay(1),), (3,))]:
                self.assertIsNone(twice(play, rules), (play, rules))

    def test_all_small_plays_by_poorer_rules(self):
        for rules in ("bare", "blind"):
            found = {True: 0, False: 0}
            for play in plays(3, SMALL_TRIES):
                expected = can_be_twice(play, rules)
                found[expected] += 1
                if expected:
                    self.assert_twice(play, rules)
                else:
                    self.assertIsNone(twice(play, rules), (play, rules))
            self.assertGreater(min(found.values()), 20)

    def test_no_play_by_good_rules(self):
        for play in plays(3, SMALL_TRIES):
            self.assertIsNone(twice(play, "good"), play)
        for play in plays(4, [(2, 1), (3,)]):
            self.assertIsNone(twice(play, "good"), play)

    def test_the_greatest_plays(self):
        began = time.process_time()
        for deeds in [(lay(1), TAKE, lay(2), TAKE), (lay(1), lay(2), TAKE, TAKE), (lay(1), TAKE, TAKE, lay(2))]:
            for tries in [(3,), (2, 1), (1, 2)]:
                self.assert_twice((deeds, tries), "bare")
                self.assert_twice((deeds, tries), "blind")
                self.assertIsNone(twice((deeds, tries), "good"))
        self.assertLess(time.process_time() - began, 60)

    def test_the_same_things_laid_are_counted_each(self):
        # Two things that are the same one may be got, each once.
        self.assertIsNone(twice(((lay(5), lay(5)), (2,)), "blind"))
        self.assertIsNone(twice(((lay(5), lay(5), TAKE), ()), "bare"))

    def test_a_lay_counts_behind_its_second_small_deed(self):
        for play in plays(3, [(), (1,), (1, 1)]):
            for rules in ("bare", "blind"):
                weaving = twice(play, rules)
                if weaving is not None:
                    game = Game(play, weaving, rules)
                    self.assertGreater(len(game.got()), len(game.laid()))

    def test_no_size(self):
        for play in [((lay(1),) * 5, ()), ((TAKE,) * 6, (0,)), ((), (3, 1)), ((), (2, 2)), ((lay(1), TAKE), (1, 3)),
                     ((lay(1),) * 6, (3, 3)), ((lay(1), TAKE, TAKE, TAKE, TAKE), (1,)), ((), (4,))]:
            for rules in RULES:
                assert_refused(self, NoSize, lambda: twice(play, rules))

    def test_what_is_told_hangs_on_nothing_asked_ahead(self):
        play = ((lay(1), TAKE), (1,))
        first = [twice(play, rules) for rules in RULES]
        self.assertEqual([twice(play, rules) for rules in reversed(RULES)], first[::-1])


if __name__ == "__main__":
    unittest.main()
