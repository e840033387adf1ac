import os
import random
import sys
import unittest

sys.path.insert(0, os.path.dirname(os.path.abspath(__file__)))

from farend.beats import measured
from farend.desk import Desk
from farend.errors import FarError, NoBack, NoJob, NoLine, NoSize, NoTurn, NoYard
from farend.fewest import fewest
from farend.plans import bound
from farend.texts import show_job
from farend.yard import Yard
from samples import (
    ALONE, DEEP_HEAP, DO, MANY_CHILDREN, TWO_WAITS, WAIT, around, chain, random_job, random_small_job, random_weaving, send,
)
from test_texts import NO_WORKS

SMALL = ((2, (send(1), send(2), WAIT)), (3, (DO, DO)), (4, (DO,)))

ROWS_OF_A_YARD = ["turn 0 1", "turn 9 9", "back", "works", "heaps", "done", "room"]
ROWS_OF_A_JOB = ["hands 1", "hands 6", "beats 1", "beats 6", "bound 1", "bound 6", "least 1", "least 6"]

# Rows that are none that a desk knows.
NO_LINES = [
    "", " ", "  ", "\n", "\t", "x", "ok", "say", "wor", "workx 1: do", "Work 1: do", "WORK 1: do", "works 1", "work", "work ",
    "work  1: do", " work 1: do", "work 1: do ", "work 1: do\n", "work\t1: do", "work 1:do", "work work 1: do", "works 1: do",
    "hands", "hands ", "hands 0", "hands 7", "hands 8", "hands 9", "hands 10", "hands 01", "hands 11", "hands -1", "hands +1",
    "hands x", "hands 1 ", "hands  1", " hands 1", "hands 1 1", "hands\t1", "hands 1\n", "hands 1\t", "Hands 1", "HANDS 1",
    "hand 1", "hands1", "hands one", "hands 1.", "hands 1,2", "hands " + "1" * 5000, "hands " + "0" * 5000, "hands \u00b2",
    "turn", "turn 0", "turn 0 ", "turn 0 1 ", "turn 0  1", "turn  0 1", " turn 0 1", "turn 0 1 2", "turn 0 10", "turn 10 0",
    "turn 00 1", "turn 0 01", "turn -1 0", "turn 0 -1", "turn +0 1", "turn a b", "turn 0 b", "turn 0\t1", "turn 0 1\n",
    "turn 0,1", "turn 01", "Turn 0 1", "turn (0, 1)", "turns 0 1", "turn 0 " + "1" * 5000, "turn " + "9" * 5000 + " 0",
    "turn 0 \u0663",
    "back ", " back", "back 1", "back back", "Back", "BACK", "back\n", "back\t", "backs",
    "works ", " works", "works 0", "Works", "works\n", "heaps ", " heaps", "heaps 0", "heap", "HEAPS", "heaps\n", "heaps\t",
    "done ", " done", "done 0", "Done", "done\n", "room ", " room", "room 1", "Room", "rooms", "room\n", "room most",
    "beats", "beats 0", "beats 7", "beats 10", "beats 1 ", "beats 1 1", "beats  1", "Beats 1", "beat 1", "beats x", "beats -1",
    "beats " + "2" * 5000, "beats 1\n",
    "bound", "bound 0", "bound 7", "bound 12", "bound 1 ", "bound 1 1", "bound  1", "Bound 1", "bounds 1", "bound x", "bound 1\n",
    "least", "least 0", "least 7", "least 99", "least 1 ", "least 1 1", "least  1", "Least 1", "least x", "least 1\n", "least -2",
    "show ", " show", "show 1", "Show", "SHOW", "show\n", "show\t", "shows", "show show",
    "clear ", " clear", "clear 1", "Clear", "clear\n", "clears", "clear clear", "\nclear", "show\nclear", "clear;",
    "(" * 5000, "[" * 5000, "1" * 5000, " " * 5000, "turn" * 2000, "work " + "1" * 5000 + ": do", "work 1:" + " do" * 3000,
    "work 1: send-" + "1" * 5000, "work 1: " + "(" * 5000,
]


def desk_with(job, hands=None):
    desk = Desk()
    for row in show_job(job).splitlines():
        assert desk.say("work " + row) == "ok"
    if hands:
        assert desk.say(f"hands {hands}") == "ok"
    return desk


class DeskCase(unittest.TestCase):
    def refused(self, desk, row, kind):
        with self.assertRaises(kind, msg=repr(row[:80])) as caught:
            desk.say(row)
        self.assertIs(type(caught.exception), kind)
        self.assertIsInstance(caught.exception, FarError)
        return caught.exception

    def assert_says(self, desk, row, answer):
        told = desk.say(row)
        self.assertIs(type(told), str)
        self.assertEqual(told, answer, row)

    def stands(self, desk):
        """All that a desk tells of what stands."""
        told = [desk.say("show")]
        for row in ["works", "heaps", "done", "room", "bound 2", "beats 3"]:
            try:
                told.append(desk.say(row))
            except FarError as refusal:
                told.append(type(refusal).__name__)
        return told


class DeskTest(DeskCase):
    def test_word_for_word(self):
        desk = Desk()
        self.assert_says(desk, "show", "")
        self.assert_says(desk, "work 2: send-1 send-2 wait", "ok")
        self.assert_says(desk, "show", "2: send-1 send-2 wait\n")
        self.assert_says(desk, "work 3: do do", "ok")
        self.assert_says(desk, "work 4: do", "ok")
        self.assert_says(desk, "show", "2: send-1 send-2 wait\n3: do do\n4: do\n")
        self.assert_says(desk, "hands 2", "ok")
        self.assert_says(desk, "works", "0 -")
        self.assert_says(desk, "heaps", "- -")
        self.assert_says(desk, "done", "0")
        self.assert_says(desk, "room", "2 2")
        self.assert_says(desk, "turn 0 1", "step 0 0")
        self.assert_says(desk, "works", "1 -")
        self.assert_says(desk, "heaps", "0 -")
        self.assert_says(desk, "room", "5 5")
        self.assert_says(desk, "turn 1 0", "took 0 0")
        self.assert_says(desk, "heaps", "- -")
        self.assert_says(desk, "turn 1 0", "step 0 1")
        self.assert_says(desk, "works", "1 2")
        self.assert_says(desk, "done", "2")
        self.assert_says(desk, "room", "9 9")
        self.assert_says(desk, "turn 1 0", "step 2 0")
        self.assert_says(desk, "works", "1 -")
        self.assert_says(desk, "room", "5 9")
        self.assert_says(desk, "turn 1 0", "missed 0")
        self.assert_says(desk, "back", "ok")
        self.assert_says(desk, "back", "ok")
        self.assert_says(desk, "room", "9 9")
        self.assert_says(desk, "back", "ok")
        self.assert_says(desk, "room", "5 5")
        self.assert_says(desk, "done", "1")
        self.assert_says(desk, "beats 2", "4 1 2 9")
        self.assert_says(desk, "beats 1", "6 0 0 6")
        self.assert_says(desk, "bound 1", "6")
        self.assert_says(desk, "bound 6", "4")
        self.assert_says(desk, "least 1", "6")
        self.assert_says(desk, "least 2", "4")
        self.assert_says(desk, "clear", "ok")
        self.assert_says(desk, "show", "")

    def test_own_takes_and_deep_heaps(self):
        desk = desk_with(DEEP_HEAP, 3)
        for row, answer in [("turn 0 1", "step 0 0"), ("turn 0 2", "step 1 0"), ("turn 0 1", "step 2 0")]:
            self.assert_says(desk, row, answer)
        self.assert_says(desk, "heaps", "0,1,2 - -")
        self.assert_says(desk, "works", "3 - -")
        self.assert_says(desk, "turn 2 0", "took 0 0")
        self.assert_says(desk, "heaps", "1,2 - -")
        self.assert_says(desk, "works", "3 - 0")
        self.assert_says(desk, "turn 0 1", "step 3 0")
        self.assert_says(desk, "turn 0 1", "step 3 1")
        self.assert_says(desk, "works", "- - 0")
        self.assert_says(desk, "turn 0 2", "own 2")
        self.assert_says(desk, "heaps", "1 - -")

    def test_works_of_two_figures(self):
        job = tuple((1, (send(work + 1), DO)) for work in range(11)) + ((1, (DO,)),)
        desk = desk_with(job, 1)
        for work in range(11):
            self.assert_says(desk, "turn 0 0", f"step {work} 0")
        self.assert_says(desk, "heaps", "0,1,2,3,4,5,6,7,8,9,10")
        self.assert_says(desk, "works", "11")
        self.assert_says(desk, "turn 0 0", "step 11 0")
        self.assert_says(desk, "works", "-")
        self.assert_says(desk, "turn 0 0", "own 10")

    def test_behind_the_end_of_all(self):
        desk = desk_with(ALONE, 2)
        self.assert_says(desk, "turn 0 1", "step 0 0")
        self.assert_says(desk, "works", "- -")
        self.assert_says(desk, "room", "0 5")
        self.assert_says(desk, "turn 0 1", "missed 1")
        self.assert_says(desk, "done", "1")

    def test_yards_of_all_kinds(self):
        for seed in range(40):
            job, hands = random_job(seed), 1 + seed % 6
            desk, yard = desk_with(job, hands), Yard(job, hands)
            for hand, other in random_weaving(seed, hands, 60):
                self.assert_says(desk, f"turn {hand} {other}", " ".join(str(part) for part in yard.turn(hand, other)))
                works = " ".join("-" if work is None else str(work) for work in yard.works())
                self.assert_says(desk, "works", works)
                heaps = " ".join(",".join(str(work) for work in heap) or "-" for heap in yard.heaps())
                self.assert_says(desk, "heaps", heaps)
                self.assert_says(desk, "done", str(len(yard.done())))
                self.assert_says(desk, "room", f"{yard.room()} {yard.most()}")

    def test_measures(self):
        unlike = 0
        for seed in range(40):
            job = random_small_job(seed)
            desk = desk_with(job)
            for hands in range(1, 7):
                self.assert_says(desk, f"bound {hands}", str(bound(job, hands)))
                self.assert_says(desk, f"least {hands}", str(len(fewest(job, hands)[0])))
        for seed in range(40):
            job = random_job(seed)
            desk = desk_with(job)
            for hands in range(1, 7):
                told = measured(job, hands, around(hands))
                self.assert_says(desk, f"beats {hands}", " ".join(str(part) for part in told))
                self.assert_says(desk, f"bound {hands}", str(bound(job, hands)))
                # Looking the other way around would tell something else now and then.
                other = tuple(row[::-1] for row in around(hands))
                unlike += measured(job, hands, other) != told
        self.assertGreater(unlike, 0)

    def test_measures_need_and_change_no_yard(self):
        desk = desk_with(SMALL)
        self.assert_says(desk, "beats 2", "4 1 2 9")
        self.refused(desk, "works", NoYard)
        desk.say("hands 3")
        desk.say("turn 0 1")
        before = self.stands(desk)
        for row in ["beats 2", "beats 6", "bound 1", "least 1"]:
            desk.say(row)
        self.assertEqual(self.stands(desk), before)

    def test_hands_told_anew(self):
        desk = desk_with(SMALL, 2)
        desk.say("turn 0 1")
        self.assert_says(desk, "hands 3", "ok")
        self.assert_says(desk, "works", "0 - -")
        self.assert_says(desk, "done", "0")
        self.refused(desk, "back", NoBack)
        desk.say("turn 0 2")
        self.assert_says(desk, "hands 3", "ok")
        self.assert_says(desk, "done", "0")

    def test_a_work_put_and_the_yard_stands_no_longer(self):
        desk = desk_with(((1, (DO,)),), 2)
        self.assert_says(desk, "works", "0 -")
        self.assert_says(desk, "work 1: do", "ok")
        # Two works of which none is sent off are no job, and no job goes ahead of no yard.
        self.refused(desk, "works", NoJob)
        desk.say("clear")
        desk = desk_with(((1, (DO,)),), 2)
        self.refused(desk, "work 1: dig", NoLine)
        self.assert_says(desk, "works", "0 -")

    def test_works_put_behind_one_another_till_they_are_a_job(self):
        desk = Desk()
        desk.say("work 1: send-1 send-2")
        self.refused(desk, "hands 2", NoJob)
        desk.say("work 1: do")
        self.refused(desk, "hands 2", NoJob)
        desk.say("work 1: do")
        self.refused(desk, "works", NoYard)
        self.assert_says(desk, "hands 2", "ok")
        self.assert_says(desk, "works", "0 -")
        desk.say("work 1: do")
        self.refused(desk, "works", NoJob)
        self.refused(desk, "hands 2", NoJob)
        self.assert_says(desk, "show", "1: send-1 send-2\n1: do\n1: do\n1: do\n")

    def test_clear(self):
        desk = desk_with(SMALL, 2)
        desk.say("turn 0 1")
        self.assert_says(desk, "clear", "ok")
        self.assert_says(desk, "show", "")
        self.refused(desk, "works", NoJob)
        self.assert_says(desk, "clear", "ok")
        desk.say("work 5: do")
        # The old yard doesn't stand any longer.
        self.refused(desk, "works", NoYard)
        self.refused(desk, "back", NoYard)
        self.assert_says(desk, "show", "5: do\n")

    def test_work_show_and_clear_while_what_stands_is_no_job(self):
        desk = Desk()
        for row in ["9: send-99", "1: send-0", "3: wait"]:
            self.assert_says(desk, "work " + row, "ok")
        self.assert_says(desk, "show", "9: send-99\n1: send-0\n3: wait\n")
        for row in ROWS_OF_A_JOB + ROWS_OF_A_YARD:
            self.refused(desk, row, NoJob)
        self.assert_says(desk, "clear", "ok")
        self.assert_says(desk, "show", "")

    def test_no_work_at_all(self):
        for row in ROWS_OF_A_JOB + ROWS_OF_A_YARD:
            self.refused(Desk(), row, NoJob)
        self.assert_says(Desk(), "show", "")
        self.assert_says(Desk(), "clear", "ok")

    def test_thirteen_works(self):
        desk = desk_with(chain(12))
        self.assert_says(desk, "bound 1", "12")
        desk.say("work 1: do")
        self.refused(desk, "bound 1", NoJob)
        for turn in range(100):
            desk.say("work 1: do")
        self.assertEqual(desk.say("show").count("\n"), 113)

    def test_two_desks_do_not_touch_each_other(self):
        one, other = desk_with(SMALL, 2), Desk()
        self.assert_says(other, "show", "")
        self.refused(other, "works", NoJob)
        other.say("work 9: do")
        other.say("hands 1")
        one.say("turn 0 1")
        self.assert_says(other, "done", "0")
        self.assert_says(other, "turn 0 0", "step 0 0")
        self.assert_says(one, "done", "1")
        other.say("clear")
        self.assert_says(one, "show", show_job(SMALL))
        self.assert_says(one, "works", "1 -")


class RefusalTest(DeskCase):
    def desks(self):
        return [Desk(), desk_with(((1, (DO,)), (1, (DO,)))), desk_with(SMALL), desk_with(SMALL, 2), desk_with(TWO_WAITS, 3)]

    def test_rows_that_a_desk_does_not_know(self):
        for desk in self.desks():
            before = self.stands(desk)
            for row in NO_LINES + ["work " + row for row in NO_WORKS]:
                self.refused(desk, row, NoLine)
            self.assertEqual(self.stands(desk), before)

    def test_no_line_ahead_of_no_job(self):
        for row in ["hands 0", "hands 7", "turn 0 10", "back 1", "beats 0", "least 7", "works ", "bound"]:
            self.refused(Desk(), row, NoLine)

    def test_no_job_ahead_of_no_yard(self):
        for row in ROWS_OF_A_YARD:
            self.refused(Desk(), row, NoJob)
            self.refused(desk_with(SMALL), row, NoYard)

    def test_no_yard_ahead_of_what_the_points_tell(self):
        self.refused(desk_with(SMALL), "turn 0 0", NoYard)
        self.refused(desk_with(SMALL), "turn 9 0", NoYard)
        self.refused(desk_with(SMALL), "back", NoYard)

    def test_no_turn(self):
        for hands in range(1, 7):
            desk = desk_with(SMALL, hands)
            before = self.stands(desk)
            for hand in range(10):
                for other in range(10):
                    right = hand < hands and other < hands and (hand != other or hands == 1)
                    if right:
                        desk.say(f"turn {hand} {other}")
                        desk.say("back")
                    else:
                        self.assertEqual(self.refused(desk, f"turn {hand} {other}", NoTurn).place, 0)
            self.assertEqual(self.stands(desk), before)
            self.refused(desk, "back", NoBack)

    def test_no_back(self):
        desk = desk_with(SMALL, 2)
        self.refused(desk, "back", NoBack)
        desk.say("turn 0 1")
        desk.say("turn 1 0")
        self.assert_says(desk, "back", "ok")
        self.assert_says(desk, "back", "ok")
        self.refused(desk, "back", NoBack)
        self.assert_says(desk, "works", "0 -")

    def test_no_size(self):
        for job in [MANY_CHILDREN, chain(10), TWO_WAITS]:
            desk = desk_with(job, 2)
            desk.say("turn 0 1")
            before = self.stands(desk)
            for hands in range(1, 7):
                self.refused(desk, f"least {hands}", NoSize)
            self.assertEqual(self.stands(desk), before)
        self.assert_says(desk_with(chain(9)), "least 3", "9")
        # No job goes ahead of no size.
        desk = Desk()
        for turn in range(2):
            desk.say("work 1:" + " do" * 8)
        self.refused(desk, "least 1", NoJob)

    def test_what_is_refused_changes_nothing(self):
        chance = random.Random(4)
        for seed in range(10):
            job = random_job(seed)
            desk, twin = desk_with(job, 3), desk_with(job, 3)
            for hand, other in random_weaving(seed, 3, 40):
                for row in chance.sample(NO_LINES, 3) + ["turn 0 0", "turn 3 0", "work 1: x"]:
                    with self.assertRaises(FarError):
                        desk.say(row)
                self.assertEqual(desk.say(f"turn {hand} {other}"), twin.say(f"turn {hand} {other}"))
                self.assertEqual(self.stands(desk), self.stands(twin))
            for turn in range(40):
                self.assert_says(desk, "back", "ok")
            self.refused(desk, "back", NoBack)


if __name__ == "__main__":
    unittest.main()
