import copy
import itertools
import os
import random
import sys
import unittest

sys.path.insert(0, os.path.dirname(os.path.abspath(__file__)))

from deeds_by_words import SMALL_TRIES, Game, all_weavings, plays, random_full_weaving
from farend.endings import endings, weaving_to
from farend.errors import NoSize, NoTurn
from farend.seen import is_seen, seen_as
from refusals import assert_refused
from samples import ANY_THINGS, GREAT

TAKE = ("take",)


def lay(x):
    return ("lay", x)


# Two things laid, then the owner's take and tries of both thieves at once.
PLAY = ((lay(1), lay(2), TAKE), (2, 1))
BESIDE = (0, 0, 0, 0) + (1, 2, 0, 1, 2, 0, 1, 2, 0, 1, 2) + (1, 1)
GREAT_PLAYS = [((lay(1),) * 5, ()), ((), (3, 1)), ((TAKE,) * 6, (1,)), ((lay(1), TAKE), (2, 2)), ((), (4,))]


class Times:
    """When each deed was under way, and what it told, by the test's own small deeds."""

    def __init__(self, play, weaving):
        game = Game(play)
        self.first, self.last, self.told = {}, {}, {}
        for place, who in enumerate(weaving):
            deed = (who, game.at[who][0])
            before = len(game.told[who])
            self.first.setdefault(deed, place)
            game.move(who)
            if game.at[who][0] != deed[1]:
                self.last[deed] = place
                self.told[deed] = game.told[who][before:]
        self.left = game.left()
        self.deeds = [deed for deed in self.told if self.told[deed] != ["lost"]]

    def in_time(self, order):
        """Whether what had ended ahead of another's first small deed stands ahead."""
        return not any(self.last[later] < self.first[deed] for deed, later in itertools.combinations(order, 2))


def whole(play, order):
    """What whole deeds tell, each a list with one thing, or none of a lay; and what they leave."""
    row, told = [], {}
    for who, number in order:
        if who:
            told[who, number] = [row.pop(0) if row else None]
        elif play[0][number][0] == "lay":
            row.append(play[0][number][1])
            told[who, number] = []
        else:
            told[who, number] = [row.pop() if row else None]
    return told, row


def is_right(play, weaving, order):
    times = Times(play, weaving)
    if sorted(order) != sorted(times.deeds) or not times.in_time(order):
        return False
    told, left = whole(play, order)
    return left == times.left and all(told[deed] == times.told[deed] for deed in order)


class SeenCase(unittest.TestCase):
    def assert_seen(self, play, weaving):
        before = copy.deepcopy((play, weaving))
        order = seen_as(play, weaving)
        self.assertIs(type(order), list)
        for deed in order:
            self.assertEqual([type(deed), type(deed[0]), type(deed[1])], [tuple, int, int])
        self.assertTrue(is_right(play, weaving, order), (play, weaving, order))
        self.assertIs(is_seen(play, weaving, order), True)
        self.assertEqual((play, weaving), before)
        return order

    def look(self, play, weaving, thing, expected):
        before = repr(thing)
        self.assertIs(is_seen(play, weaving, thing), expected, (play, weaving, thing))
        self.assertEqual(repr(thing), before)


class SeenAsTest(SeenCase):
    def test_known_orders(self):
        self.assertEqual(seen_as(((), ()), ()), [])
        self.assertEqual(seen_as(((lay(1), TAKE), ()), (0,) * 7), [(0, 0), (0, 1)])
        self.assertEqual(seen_as(((lay(1),), (1,)), (1, 1, 0, 0)), [(1, 0), (0, 0)])
        self.assertEqual(seen_as(((lay(1),), (1,)), (0, 0, 1, 1, 1, 1)), [(0, 0), (1, 0)])
        self.assertEqual(seen_as(((lay(1),), (1,)), (1, 0, 0, 1, 1, 1)), [(0, 0), (1, 0)])

    def test_lost_tries_are_left_out_but_counted(self):
        # Thief 2 loses its first try, then misses.
        play = ((lay(1),), (1, 2))
        weaving = (0, 0, 1, 2, 1, 2, 1, 2, 1, 2, 2, 2)
        self.assertEqual(seen_as(play, weaving), [(0, 0), (1, 0), (2, 1)])
        self.look(play, weaving, [(0, 0), (1, 0), (2, 1)], True)
        self.look(play, weaving, [(0, 0), (1, 0), (2, 0)], False)
        self.look(play, weaving, [(0, 0), (1, 0), (2, 0), (2, 1)], False)

    def test_a_miss_ahead_of_the_get_that_made_it(self):
        # Thief 1 has looked; thief 2 misses and ends as the owner's take is under way; thief 1 gets the thing last.
        play = ((lay(1), TAKE), (1, 1))
        weaving = (0, 0, 1, 1, 1, 0, 2, 2, 1, 0, 0)
        order = self.assert_seen(play, weaving)
        self.assertLess(order.index((1, 0)), order.index((2, 0)))

    def test_all_weavings_of_small_plays(self):
        many = 0
        for play in plays(2, [(), (1,), (2,), (1, 1)]):
            small = sum(2 if deed[0] == "lay" else 5 for deed in play[0])
            if small + 4 * sum(play[1]) <= 12:
                for weaving in all_weavings(play):
                    self.assert_seen(play, weaving)
                    many += 1
        self.assertGreater(many, 1000)

    def test_weavings_to_all_endings(self):
        for play in plays(3, SMALL_TRIES):
            for ending in endings(play):
                self.assert_seen(play, weaving_to(play, ending))

    def test_random_weavings(self):
        chance = random.Random(5)
        for play in plays(4, [(1,), (3,), (2, 1), (1, 2), (1, 1)]):
            for turn in range(12):
                self.assert_seen(play, random_full_weaving(play, chance))

    def test_the_same_things_laid(self):
        chance = random.Random(6)
        for deeds in [(lay(4), lay(4), TAKE), (lay(4), TAKE, lay(4), TAKE), (lay(0), lay(GREAT), lay(0), TAKE)]:
            for turn in range(60):
                self.assert_seen((deeds, (2, 1)), random_full_weaving((deeds, (2, 1)), chance))

    def test_told_lists_are_the_askers_own(self):
        first = seen_as(PLAY, BESIDE)
        before = list(first)
        first.append("x")
        first.clear()
        self.assertEqual(seen_as(PLAY, BESIDE), before)


class IsSeenTest(SeenCase):
    def test_all_orders(self):
        """Each order of the deeds, and of one left out: the test's own whole deeds tell which are right."""
        chance = random.Random(7)
        rights, wrongs = 0, 0
        for play in plays(3, [(1,), (2,), (1, 1), (2, 1)]):
            for turn in range(3):
                weaving = random_full_weaving(play, chance)
                deeds = Times(play, weaving).deeds
                if len(deeds) > 5:
                    continue
                for order in itertools.permutations(deeds):
                    right = is_right(play, weaving, list(order))
                    self.look(play, weaving, list(order), right)
                    rights += right
                    wrongs += not right
        self.assertGreater(rights, 200)
        self.assertGreater(wrongs, 1000)

    def test_several_right_ones(self):
        # Two tries at once that both miss may stand either way.
        play, weaving = ((), (1, 1)), (1, 2, 1, 2)
        self.look(play, weaving, [(1, 0), (2, 0)], True)
        self.look(play, weaving, [(2, 0), (1, 0)], True)
        self.look(play, (1, 1, 2, 2), [(1, 0), (2, 0)], True)
        self.look(play, (1, 1, 2, 2), [(2, 0), (1, 0)], False)
        self.look(play, (2, 2, 1, 1), [(1, 0), (2, 0)], False)

    def test_times_alone(self):
        # What they tell and leave is the same, but the try had ended ahead of the lay's first small deed, or just not.
        play = ((TAKE, lay(1)), (1,))
        self.look(play, (1, 1, 0, 0, 0, 0, 0), [(0, 0), (1, 0), (0, 1)], False)
        self.look(play, (1, 0, 1, 0, 0, 0, 0), [(0, 0), (1, 0), (0, 1)], True)
        self.look(play, (0, 0, 1, 1, 0, 0, 0), [(1, 0), (0, 0), (0, 1)], True)
        self.look(play, (0, 0, 0, 1, 1, 0, 0), [(1, 0), (0, 0), (0, 1)], False)

    def test_what_they_leave(self):
        # Lays tell nothing, so only what is left tells in which order they were done.
        play = ((lay(5), lay(6)), ())
        self.look(play, (0,) * 4, [(0, 0), (0, 1)], True)
        self.look(play, (0,) * 4, [(0, 1), (0, 0)], False)

    def test_bent_lists(self):
        chance = random.Random(8)
        for play in [PLAY, ((lay(1), TAKE), (1,)), ((lay(1), lay(2)), (1, 2)), ((TAKE,), (1, 1))]:
            weavings = [random_full_weaving(play, chance) for turn in range(8)]
            for weaving in weavings:
                order = seen_as(play, weaving)
                for bent in self.bent(order):
                    self.look(play, weaving, bent, False)
                for one, other in itertools.combinations(range(len(order)), 2):
                    bent = list(order)
                    bent[one], bent[other] = bent[other], bent[one]
                    self.look(play, weaving, bent, is_right(play, weaving, bent))
                lost = [deed for deed, told in Times(play, weaving).told.items() if told == ["lost"]]
                for deed in lost:
                    for at in range(len(order) + 1):
                        self.look(play, weaving, order[:at] + [deed] + order[at:], False)

    def bent(self, order):
        yield tuple(order)
        yield {deed: at for at, deed in enumerate(order)}
        yield [order]
        yield (order,)
        yield order + [(3, 0)]
        yield order + [()]
        yield order + order
        for at, (who, number) in enumerate(order):
            yield order[:at] + order[at + 1:]
            yield order + [(who, number)]
            yield order[:at] + [(who, number)] + order[at:]
            for other in [[who, number], (who, number, 0), (who,), who, None, "deed", (str(who), number), (who, str(number)),
                          (who, None), (who, 9), (9, number), (-1, number), (who, -1), (who, number + GREAT), (GREAT, 0),
                          ((who, number),), (who, [number]), {who: number}, True, (who, (number,))]:
                yield order[:at] + [other] + order[at + 1:]
            if who < 2:
                yield order[:at] + [(bool(who), number)] + order[at + 1:]
            if number < 2:
                yield order[:at] + [(who, bool(number))] + order[at + 1:]

    def test_things_of_other_kinds(self):
        for play, weaving in [(PLAY, BESIDE), (((lay(1),), ()), (0, 0)), (((), ()), ())]:
            for thing in ANY_THINGS:
                if not (thing == [] and play == ((), ())):
                    self.look(play, weaving, thing, False)
                    self.look(play, weaving, [thing], thing == (0, 0) and len(play[0]) == 1)
        self.look(((), ()), (), [], True)
        self.look(((lay(1),), ()), (0, 0), [(0, 0)], True)
        self.look(((lay(1),), ()), (0, 0), [(0, 0)] * 3000, False)
        self.look(((lay(1),), ()), (0, 0), [[[[[[(0, 0)]]]]]], False)


class RefusalTest(SeenCase):
    def no_size(self, asked):
        assert_refused(self, NoSize, asked)

    def no_turn(self, play, weaving, place):
        things = [None, [], (), "x", [(0, 0)], {}, GREAT, [None]]
        for asked in [lambda: seen_as(play, weaving)] + [lambda thing=thing: is_seen(play, weaving, thing) for thing in things]:
            refusal = assert_refused(self, NoTurn, asked)
            self.assertIs(type(refusal.place), int)
            self.assertEqual(refusal.place, place, weaving)

    def test_no_size_ahead_of_all(self):
        for play in GREAT_PLAYS:
            for weaving in [(), (0,), (None,), (True, "x"), (9,) * 5]:
                self.no_size(lambda: seen_as(play, weaving))
                for thing in [None, [], "x", [(0, 0)]]:
                    self.no_size(lambda: is_seen(play, weaving, thing))

    def test_not_to_the_end(self):
        for play, weaving in [(PLAY, BESIDE), (((lay(1), TAKE), (1,)), (0, 0, 1, 1, 1, 0, 0, 0, 1, 0, 0))]:
            self.assertEqual(Game(play, weaving).able(), [])
            for many in range(len(weaving)):
                self.no_turn(play, weaving[:many], many)
        self.no_turn(((), (0, 1)), (), 0)
        self.no_turn(((), (0, 1)), (2,), 1)

    def test_what_is_no_turn(self):
        for thing in [thing for thing in ANY_THINGS if repr(thing) not in ("0", "1", "2")] + [3, -1, -2, "0", [0], (0,)]:
            for at in range(len(BESIDE) + 1):
                # Ahead of what isn't to the end, whatever stands behind.
                self.no_turn(PLAY, BESIDE[:at] + (thing,), at)
                self.no_turn(PLAY, BESIDE[:at] + (thing,) + BESIDE[at:], at)
        self.no_turn(PLAY, BESIDE + (0,), len(BESIDE))
        self.no_turn(PLAY, BESIDE + (1, None), len(BESIDE))
        self.no_turn(((lay(1),), (1,)), (0, 0, 0), 2)
        self.no_turn(((lay(1),), ()), (1,), 0)


if __name__ == "__main__":
    unittest.main()
