"""Points 2 and 3 over the whole program, for every function and method of the interface: what is handed in stays, what
is told is the asker's own, and nothing hangs on what was asked ahead."""

import copy
import importlib
import inspect
import os
import random
import re
import sys
import unittest

sys.path.insert(0, os.path.dirname(os.path.abspath(__file__)))

from deeds_by_words import random_full_weaving
from farend.alone import alone
from farend.beats import beaten, measured
from farend.desk import Desk
from farend.ends import walked
from farend.endings import endings, weaving_to
from farend.errors import FarError
from farend.fewest import fewest, is_fewest, least_hands
from farend.jobs import below, is_job, parents
from farend.plans import bound, is_plan
from farend.poor import twice
from farend.seen import is_seen, seen_as
from farend.tales import wrong_at
from farend.texts import read_job, show_job
from farend.turns import woven
from farend.ways import all_hangs, hangs, longest, road, whole
from farend.yard import Yard
from samples import ANY_THINGS, DEEP_HEAP, TWO_WAITS, around, chain, random_job, random_small_job, random_weaving

# The functions of the interface, with the names of their arguments as it lists them.
FUNCTIONS = {
    "jobs": ["is_job(thing)", "parents(job)", "below(job, work)"],
    "ways": ["hangs(job, step)", "all_hangs(job, step)", "whole(job)", "longest(job)", "road(job)"],
    "alone": ["alone(job)"],
    "turns": ["woven(job, hands, weaving)"],
    "tales": ["wrong_at(job, hands, thing)"],
    "beats": ["beaten(job, hands, order)", "measured(job, hands, order)"],
    "plans": ["is_plan(job, hands, thing)", "bound(job, hands)"],
    "fewest": ["fewest(job, hands)", "is_fewest(job, hands, thing)", "least_hands(job)"],
    "ends": ["walked(play, weaving)"],
    "endings": ["endings(play)", "weaving_to(play, ending)"],
    "poor": ["twice(play, rules)"],
    "texts": ["show_job(job)", "read_job(text)"],
    "seen": ["seen_as(play, weaving)", "is_seen(play, weaving, thing)"],
}
CLASSES = {
    ("yard", "Yard"): ["__init__(self, job, hands)", "turn(self, hand, other)"] + [
        word + "(self)" for word in "back works heaps standing living done able room most ended".split()
    ],
    ("desk", "Desk"): ["__init__(self)", "say(self, row)"],
}
LAY_TAKE = ((("lay", 1), ("take",), ("lay", 2), ("take",)), (2, 1))
PLAYS = [((), ()), ((("lay", 7), ("take",)), (1,)), ((("lay", 1), ("lay", 2), ("take",)), (1, 1)), LAY_TAKE]


def tale_of(job, hands, weaving):
    return [(turn[0], told) for turn, told in zip(weaving, woven(job, hands, weaving)[0])]


def calls_of_jobs():
    """Calls of each function over jobs."""
    for seed, job in enumerate([TWO_WAITS, DEEP_HEAP, chain(9), random_job(3), random_small_job(13), random_small_job(23)]):
        hands = 1 + seed % 4
        weaving = random_weaving(seed, hands, 30)
        last = len(job) - 1
        for function in (is_job, parents, whole, longest, road, alone, least_hands, show_job):
            yield function, (job,)
        for function in (hangs, all_hangs):
            yield function, (job, (last, 0))
            yield function, (job, (0, len(job[0][1]) - 1))
        yield below, (job, 0)
        yield below, (job, last)
        yield read_job, (show_job(job),)
        yield read_job, (show_job(job)[:-1],)
        yield woven, (job, hands, weaving)
        yield woven, (job, hands, weaving + [[0, 1]])
        yield wrong_at, (job, hands, tale_of(job, hands, weaving))
        yield wrong_at, (job, hands, tale_of(job, hands, weaving) + [(0, ["step", 0, 0])])
        for function in (beaten, measured):
            yield function, (job, hands, around(hands))
            yield function, (job, hands, [[]])
        plan = [[step] for step in alone(job)[0]]
        yield is_plan, (job, hands, plan)
        yield is_plan, (job, hands, plan[::-1])
        for function in (bound, fewest):
            yield function, (job, hands)
        if whole(job) <= 9:
            yield is_fewest, (job, hands, fewest(job, hands))
        for thing in ANY_THINGS:
            yield is_job, (thing,)
            yield is_plan, (job, hands, thing)
            yield is_fewest, (job, hands, thing)


def calls_of_plays():
    """Calls of each function over plays."""
    for play in PLAYS:
        weaving = random_full_weaving(play, random.Random(1))
        yield endings, (play,)
        for ending in [walked(play, weaving), ([], []), ([[1], ["lost"]], [None])]:
            yield weaving_to, (play, ending)
        for rules in ("bare", "blind", "good"):
            yield twice, (play, rules)
        for told in [weaving, weaving + (0,), weaving[:-1] + ([],), (None,)]:
            yield walked, (play, told)
            yield seen_as, (play, told)
            for thing in ANY_THINGS[:12] + [seen_as(play, weaving), seen_as(play, weaving) + [(0, 9)]]:
                yield is_seen, (play, told, thing)


def all_calls():
    return list(calls_of_jobs()) + list(calls_of_plays())


def ask(function, arguments):
    """What a call tells, or its refusal."""
    try:
        return function(*arguments)
    except FarError as refusal:
        return type(refusal).__name__, vars(refusal)


def spoil(thing):
    """Change all lists and dicts of a thing that was told."""
    if isinstance(thing, (list, tuple)):
        for part in thing:
            spoil(part)
    if isinstance(thing, dict):
        for part in thing.values():
            spoil(part)
        thing.clear()
    if isinstance(thing, list):
        thing.reverse()
        thing.append("spoilt")


class InterfaceTest(unittest.TestCase):
    def words(self, text):
        name, arguments = re.fullmatch(r"(\w+)\((.*)\)", text).groups()
        return name, arguments.split(", ") if arguments else []

    def test_functions(self):
        for module, texts in FUNCTIONS.items():
            for text in texts:
                name, arguments = self.words(text)
                found = getattr(importlib.import_module("farend." + module), name)
                self.assertTrue(inspect.isfunction(found))
                self.assertEqual(found.__module__, "farend." + module)
                self.assertEqual(list(inspect.signature(found).parameters), arguments)

    def test_methods_stand_in_the_class_itself(self):
        for (module, kind), texts in CLASSES.items():
            found = getattr(importlib.import_module("farend." + module), kind)
            for text in texts:
                name, arguments = self.words(text)
                self.assertIn(name, vars(found))
                self.assertEqual(list(inspect.signature(vars(found)[name]).parameters), arguments)

    def test_each_function_is_called_here(self):
        called = {function.__name__ for function, arguments in all_calls()}
        listed = {self.words(text)[0] for texts in FUNCTIONS.values() for text in texts}
        self.assertEqual(called, listed)


class EverywhereTest(unittest.TestCase):
    def test_what_is_handed_in_stays(self):
        for function, arguments in all_calls():
            before = repr(arguments)
            ask(function, arguments)
            self.assertEqual(repr(arguments), before, function)

    def test_what_is_told_is_the_askers_own(self):
        for function, arguments in all_calls():
            told = ask(function, arguments)
            before = repr(told)
            again = ask(function, arguments)
            kept = repr(arguments)
            spoil(told)
            self.assertEqual(repr(again), before, function)
            self.assertEqual(repr(arguments), kept, function)
            self.assertEqual(repr(ask(function, arguments)), before, function)

    def test_no_told_list_stands_twice_in_what_is_told(self):
        for function, arguments in all_calls():
            met = []
            due = [ask(function, arguments)]
            while due:
                now = due.pop()
                if isinstance(now, (list, dict)):
                    self.assertFalse(any(now is other for other in met), function)
                    met.append(now)
                if isinstance(now, (list, tuple)):
                    due.extend(now)

    def test_what_is_handed_in_may_be_changed_later(self):
        for function, arguments in all_calls():
            own = copy.deepcopy(arguments)
            told = ask(function, own)
            before = repr(told)
            spoil(own)
            self.assertEqual(repr(told), before, function)

    def test_nothing_hangs_on_what_was_asked_ahead(self):
        calls = all_calls()
        first = [repr(ask(function, arguments)) for function, arguments in calls]
        order = list(range(len(calls)))
        random.Random(2).shuffle(order)
        for at in order:
            self.assertEqual(repr(ask(*calls[at])), first[at], calls[at])

    def test_truths_are_just_that(self):
        truths = (is_job, is_plan, is_fewest, is_seen)
        for function, arguments in all_calls():
            told = ask(function, arguments)
            if function in truths and not isinstance(told, tuple):
                self.assertIs(type(told), bool)
            elif function not in truths:
                self.assertNotIsInstance(told, bool)


class YardAndDeskTest(unittest.TestCase):
    def asked(self, yard):
        return [
            yard.works(), yard.heaps(), yard.standing(), yard.living(), yard.done(), yard.able(), yard.room(), yard.most(),
            yard.ended(),
        ]

    def test_what_a_yard_tells_is_the_askers_own(self):
        for seed in range(6):
            yard = Yard(random_job(seed), 3)
            states = []
            for hand, other in random_weaving(seed, 3, 40):
                states.append(repr(self.asked(yard)))
                spoil(self.asked(yard))
                self.assertEqual(repr(self.asked(yard)), states[-1])
                self.assertIs(type(yard.turn(hand, other)), tuple)
            while states:
                self.assertIsNone(yard.back())
                self.assertEqual(repr(self.asked(yard)), states.pop())

    def test_yards_do_not_touch_each_other(self):
        one, other = Yard(DEEP_HEAP, 2), Yard(DEEP_HEAP, 2)
        before = repr(self.asked(other))
        one.turn(0, 1)
        one.turn(1, 0)
        self.assertEqual(repr(self.asked(other)), before)

    def test_a_desk_goes_by_what_it_was_told_alone(self):
        rows = ["work 1: send-1 do", "work 2: do", "show", "hands 2", "turn 0 1", "turn 1 0", "works", "heaps", "beats 2",
                "bound 2", "least 2", "back", "done", "room", "x", "clear", "works"]
        first, second = Desk(), Desk()
        told = [ask(first.say, (row,)) for row in rows]
        for function, arguments in list(calls_of_plays())[:40]:
            ask(function, arguments)
        self.assertEqual([ask(second.say, (row,)) for row in rows], told)
        self.assertEqual([ask(first.say, (row,)) for row in rows], told)


if __name__ == "__main__":
    unittest.main()
