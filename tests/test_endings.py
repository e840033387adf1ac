import copy
import os
import random
import sys
import time
import unittest

sys.path.insert(0, os.path.dirname(os.path.abspath(__file__)))

from deeds_by_words import SMALL_TRIES, Game, all_games, all_weavings, plays, random_full_weaving
from farend.endings import endings, weaving_to
from farend.ends import walked
from farend.errors import NoSize
from refusals import assert_refused
from samples import GREAT

TAKE = ("take",)


def lay(x):
    return ("lay", x)


def all_done(play, weaving):
    return Game(play, weaving).able() == []


GREAT_PLAYS = [
    ((lay(1),) * 5, ()), ((TAKE,) * 5, (0,)), ((lay(1), TAKE) * 3, (1, 1)), ((), (3, 1)), ((), (2, 2)), ((lay(1),), (1, 3)),
    ((lay(1), TAKE), (3, 3)), ((lay(1),) * 6, (3, 3)), ((TAKE,) * 7, ()), ((), (4,)), ((lay(1),) * 5, (0, 0)),
]


class EndingsTest(unittest.TestCase):
    def test_known_endings(self):
        self.assertEqual(endings(((), ())), [([[]], [])])
        self.assertEqual(endings(((), (0, 0))), [([[], [], []], [])])
        self.assertEqual(endings(((TAKE,), (1,))), [([[None], [None]], [])])
        self.assertEqual(endings(((lay(1), lay(2)), ())), [([[]], [1, 2])])
        self.assertEqual(endings(((lay(5),), (1,))), [([[], [5]], []), ([[], [None]], [5])])
        self.assertEqual(
            endings(((lay(1), TAKE), (1,))), [([[1], ["lost"]], []), ([[1], [None]], []), ([[None], [1]], [])]
        )

    def test_rising_by_their_texts(self):
        # By their texts 10 stands ahead of 9, and "lost" ahead of None.
        told = endings(((lay(9), lay(10), TAKE), (1,)))
        self.assertEqual([repr(ending) for ending in told], sorted(repr(ending) for ending in told))
        for play in plays(3, SMALL_TRIES):
            texts = [repr(ending) for ending in endings(play)]
            self.assertEqual(texts, sorted(set(texts)))

    def test_by_all_weavings(self):
        for play in plays(3, [(), (0,), (1,), (2,), (0, 1), (1, 1)]):
            small = sum(2 if deed[0] == "lay" else 5 for deed in play[0])
            if small + 4 * sum(play[1]) > 15 or sum(play[1]) > 1 and small > 5:
                continue
            found = {repr(walked(play, weaving)) for weaving in all_weavings(play)}
            self.assertEqual([repr(ending) for ending in endings(play)], sorted(found))

    def test_by_all_states(self):
        for play in plays(4, SMALL_TRIES):
            found = {repr(game.outcome()) for game, weaving in all_games(play) if not game.able()}
            self.assertEqual([repr(ending) for ending in endings(play)], sorted(found))

    def test_the_same_things_laid(self):
        for deeds in [(lay(3), lay(3)), (lay(3), TAKE, lay(3), TAKE), (lay(0), lay(-1), lay(0)), (lay(GREAT), lay(-GREAT), TAKE)]:
            for tries in SMALL_TRIES:
                play = (deeds, tries)
                found = {repr(game.outcome()) for game, weaving in all_games(play) if not game.able()}
                self.assertEqual([repr(ending) for ending in endings(play)], sorted(found))

    def test_nothing_is_got_twice_or_lost(self):
        for play in plays(4, SMALL_TRIES):
            laid = sorted(deed[1] for deed in play[0] if deed[0] == "lay")
            for told, left in endings(play):
                got = [what for row in told for what in row if what not in (None, "lost")]
                self.assertEqual(sorted(got + left), laid)

    def test_kinds(self):
        for ending in endings(((lay(1), TAKE), (1, 1))):
            self.assertIs(type(ending), tuple)
            self.assertEqual([type(part) for part in ending], [list, list])
            self.assertEqual([type(row) for row in ending[0]], [list] * 3)

    def test_each_is_the_askers_own(self):
        play = ((lay(1), lay(2), TAKE), (2,))
        first = endings(play)
        before = copy.deepcopy(first)
        for at in range(len(first)):
            first[at][0][0].append("x")
            first[at][0].append("y")
            first[at][1].append("z")
            self.assertEqual(first[at + 1:], before[at + 1:])
        first.clear()
        self.assertEqual(endings(play), before)

    def test_three_thieves(self):
        play = ((lay(1), lay(2)), (1, 1, 1))
        found = {repr(game.outcome()) for game, weaving in all_games(play) if not game.able()}
        self.assertEqual([repr(ending) for ending in endings(play)], sorted(found))

    def test_the_greatest_plays_are_told_soon(self):
        began = time.process_time()
        for tries in [(3,), (2, 1), (1, 2), (3, 0)]:
            for deeds in [(lay(1), TAKE, lay(2), TAKE), (lay(1), lay(2), TAKE, TAKE), (TAKE,) * 4, (lay(1),) * 4]:
                told = endings((deeds, tries))
                self.assertIsNotNone(weaving_to((deeds, tries), told[-1]))
        self.assertLess(time.process_time() - began, 60)


class WeavingToTest(unittest.TestCase):
    def test_each_ending_is_come_to(self):
        for play in plays(3, SMALL_TRIES):
            for ending in endings(play):
                before = copy.deepcopy(ending)
                weaving = weaving_to(play, ending)
                self.assertIs(type(weaving), tuple)
                self.assertEqual({type(who) for who in weaving} - {int}, set())
                self.assertEqual(walked(play, weaving), before)
                self.assertTrue(all_done(play, weaving))
                self.assertEqual(ending, before)

    def test_great_plays(self):
        for play in [((lay(1), TAKE, lay(2), TAKE), (2, 1)), ((lay(1), lay(2), lay(3), TAKE), (1, 2))]:
            for ending in endings(play):
                weaving = weaving_to(play, ending)
                self.assertEqual(walked(play, weaving), ending)
                self.assertTrue(all_done(play, weaving))

    def test_endings_of_random_weavings(self):
        chance = random.Random(3)
        for play in plays(4, [(1,), (2, 1), (3,)]):
            ending = walked(play, random_full_weaving(play, chance))
            self.assertEqual(walked(play, weaving_to(play, ending)), ending)

    def test_no_deeds(self):
        self.assertEqual(weaving_to(((), ()), ([[]], [])), ())
        self.assertEqual(weaving_to(((), (0, 0)), ([[], [], []], [])), ())
        self.assertIsNone(weaving_to(((), ()), ([], [])))
        self.assertIsNone(weaving_to(((), ()), ([[], []], [])))
        self.assertIsNone(weaving_to(((), ()), ([[]], [1])))

    def none(self, play, pair, texts):
        if repr(pair) in texts:
            return 0
        before = repr(pair)
        self.assertIsNone(weaving_to(play, pair), before)
        self.assertEqual(repr(pair), before)
        return 1

    def test_pairs_that_are_no_endings(self):
        for play in [((lay(1), TAKE), (1,)), ((lay(1), lay(2)), (1, 1)), ((lay(1), lay(1), TAKE), (2,)), ((TAKE,), (1,))]:
            told = endings(play)
            texts = [repr(ending) for ending in told]
            nones = 0
            for ending in told:
                for bent in self.bent(ending):
                    nones += self.none(play, bent, texts)
            self.assertGreater(nones, 20)

    def bent(self, ending):
        """An ending bent once in all ways."""
        rows, left = ending
        for thing in (1, 2, 3, None, "lost", 0, -1):
            yield rows, left + [thing]
            yield rows, [thing] + left
            yield rows, [thing] * len(left)
            for at, row in enumerate(rows):
                for changed in [row + [thing], [thing] + row, [thing] * len(row)]:
                    yield rows[:at] + [changed] + rows[at + 1:], left
        yield rows, left[:-1]
        yield rows, left[::-1]
        yield rows + [[]], left
        yield [[]] + rows, left
        yield rows + [left], left
        yield rows[:-1], left
        yield rows[1:], left
        yield rows[::-1], left
        yield [], left
        yield [], []
        for at, row in enumerate(rows):
            yield rows[:at] + [row[:-1]] + rows[at + 1:], left
            yield rows[:at] + [row[::-1]] + rows[at + 1:], left
            yield rows[:at] + [left] + rows[at + 1:], row
            for place, what in enumerate(row):
                for other in (None, "lost", 1, 2, 99):
                    yield rows[:at] + [row[:place] + [other] + row[place + 1:]] + rows[at + 1:], left

    def test_none_for_lost_and_lost_for_none(self):
        play = ((lay(1), lay(2)), (1, 1))
        self.assertIn(([[], [1], ["lost"]], [2]), endings(play))
        self.assertIsNotNone(weaving_to(play, ([[], [1], ["lost"]], [2])))
        self.assertIsNone(weaving_to(play, ([[], ["lost"], ["lost"]], [1, 2])))
        # A thief alone never loses a try.
        self.assertIsNone(weaving_to(((lay(1),), (1,)), ([[], ["lost"]], [1])))
        self.assertIsNone(weaving_to(((TAKE,), (1,)), ([["lost"], [None]], [])))
        self.assertIsNone(weaving_to(((lay(1), TAKE), (1,)), ([[None], ["lost"]], [])))
        self.assertIsNone(weaving_to(((lay(1), TAKE), (1,)), ([[None], [None]], [1])))

    def test_told_weavings_hang_on_nothing_asked_ahead(self):
        play = ((lay(1), TAKE), (1,))
        first = [weaving_to(play, ending) for ending in endings(play)]
        self.assertEqual([weaving_to(play, ending) for ending in endings(play)], first)


class NoSizeTest(unittest.TestCase):
    def refused(self, asked):
        assert_refused(self, NoSize, asked)

    def test_great_plays(self):
        for play in GREAT_PLAYS:
            self.refused(lambda: endings(play))
            for ending in [([[]], []), ([], []), ([[], [], []], [1]), ([[1], ["lost"]], [None])]:
                self.refused(lambda: weaving_to(play, ending))

    def test_the_greatest_are_not_refused(self):
        for play in [((TAKE,) * 4, (3,)), ((TAKE,) * 4, (2, 1)), ((lay(1),) * 4, (0, 3)), ((), (3, 0))]:
            self.assertTrue(endings(play))
            self.assertIsNone(weaving_to(play, ([], [])))


if __name__ == "__main__":
    unittest.main()
