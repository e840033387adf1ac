import copy
import os
import sys
import unittest

sys.path.insert(0, os.path.dirname(os.path.abspath(__file__)))

from farend.errors import FarError, NoJob, NoText
from farend.jobs import is_job
from farend.texts import read_job, show_job
from samples import ALL_AT_ONCE, ALONE, DEEP_HEAP, DO, MANY_CHILDREN, TWO_WAITS, WAIT, chain, random_job, random_small_job, send

JOBS = [ALL_AT_ONCE, ALONE, DEEP_HEAP, MANY_CHILDREN, TWO_WAITS, ((9, (DO,) * 8),), ((1, (WAIT,)),), chain(12, 8)]
JOBS += [chain(many, 2) for many in range(1, 13)]
JOBS += [random_job(seed) for seed in range(60)] + [random_small_job(seed) for seed in range(20)]

# Rows without their line ends that are no works by themselves.
NO_WORKS = [
    "", " ", ":", "5", "do", "5:", "5: ", "5 do", "5 : do", "5:do", " 5: do", "5:  do", "5: do ", "5: do  do", "5: do  ",
    "5:\tdo", "5: do\tdo", "5: do\t", "\t5: do", "5\t: do", "5: do\r", "5; do", "5:: do", "5: : do", "5: do:",
    "0: do", "10: do", "12: do", "99: do", "100: do", "123: do", "05: do", "00: do", "01: do", "+5: do", "-5: do", "-1: do",
    "5.0: do", "a: do", "x5: do", "5x: do", ": do", " : do", "1_: do", "1 1: do", "five: do",
    "5: " + "do " * 8 + "do", "5:" + " do" * 9, "5:" + " wait" * 12, "5:" + " send-1" * 9,
    "5: Do", "5: DO", "5: d", "5: doo", "5: dodo", "5: do,do", "5: Wait", "5: waits", "5: wai", "5: go", "5: do; wait",
    "5: send", "5: send-", "5: send 1", "5: send- 1", "5: send -1", "5: send--1", "5: send-1-", "5: send-1-2", "5: -1",
    "5: send-+1", "5: send-01", "5: send-00", "5: send-100", "5: send-123", "5: send-a", "5: send-1a", "5: send-1.",
    "5: send1", "5: Send-1", "5: send_1", "5: sends-1", "5: send-1 ", "5: send-\t1", "5: do-1", "5: wait-", "5: wait-1",
    "5: do do do x", "5: do do do send-x do", "5: (\"do\",)", "5: ('send', 1)", "(5, ((\"do\",),))", "5: send-None",
    "work 5: do", "5: do # why", "5: ~", "5: []", "~", "5: send-1_0",
]

# Rows that are works by themselves, with which all below 12 are sent off or not as they are.
WORKS = ["1: do", "9: wait", "5: send-0", "5: send-1", "5: send-9", "5: send-10", "5: send-99", "3:" + " do" * 8]


class ShowTest(unittest.TestCase):
    def test_known_texts(self):
        self.assertEqual(show_job(ALONE), "5: do\n")
        self.assertEqual(
            show_job(TWO_WAITS),
            "4: wait send-1 wait send-2 do wait\n1: do send-3 do\n2: do do\n9: do do do do\n",
        )
        self.assertEqual(show_job(((9, (DO,) * 8),)), "9: do do do do do do do do\n")
        self.assertTrue(show_job(ALL_AT_ONCE).endswith("1: send-10\n1: send-11\n1: do\n"))

    def test_written_and_read_back(self):
        self.assertEqual({len(job) for job in JOBS}, set(range(1, 13)))
        for job in JOBS:
            before = copy.deepcopy(job)
            text = show_job(job)
            self.assertIs(type(text), str)
            self.assertEqual(text.count("\n"), len(job))
            told = read_job(text)
            self.assertEqual(repr(told), repr(before))
            self.assertIs(is_job(told), True)
            self.assertEqual(show_job(told), text)
            self.assertEqual(job, before)


class ReadTest(unittest.TestCase):
    def no_text(self, text, line):
        with self.assertRaises(NoText, msg=repr(text[:80])) as caught:
            read_job(text)
        self.assertIs(type(caught.exception), NoText)
        self.assertIsInstance(caught.exception, FarError)
        self.assertIs(type(caught.exception.line), int)
        self.assertEqual(caught.exception.line, line, repr(text[:80]))

    def no_job(self, text):
        with self.assertRaises(NoJob, msg=repr(text[:80])) as caught:
            read_job(text)
        self.assertIs(type(caught.exception), NoJob)
        self.assertIsInstance(caught.exception, FarError)

    def test_known_texts(self):
        self.assertEqual(read_job("5: do\n"), ((5, (("do",),)),))
        self.assertEqual(read_job("1: send-1 wait\n2: do\n"), ((1, (("send", 1), ("wait",))), (2, (("do",),))))

    def test_the_empty_text(self):
        self.no_text("", 0)

    def test_without_the_last_line_end(self):
        self.no_text("5: do", 0)
        self.no_text("1: send-1\n2: do", 1)
        self.no_text("1: send-1\n2: send-2\n3: do", 2)
        for job in JOBS:
            self.no_text(show_job(job)[:-1], len(job) - 1)

    def test_a_line_end_too_many(self):
        self.no_text("\n", 0)
        self.no_text("\n\n", 0)
        self.no_text("5: do\n\n", 1)
        self.no_text("\n5: do\n", 0)
        self.no_text("1: send-1\n\n2: do\n", 1)
        self.no_text("5: do\n \n", 1)
        self.no_text("5: do\n ", 1)
        self.no_text("5: do\r\n", 0)

    def test_rows_that_are_no_works(self):
        for row in NO_WORKS:
            self.no_text(row + "\n", 0)
            self.no_text("1: send-1\n" + row + "\n", 1)
            self.no_text(row + "\n1: do\n", 0)
            self.no_text("1: send-1\n2: send-2\n3: do\n" + row + "\n4: do\n", 3)
            self.no_text(row + "\n" + row + "\n", 0)
            if row:
                self.no_text(row, 0)
                self.no_text("1: send-1\n" + row, 1)

    def test_rows_that_are_works(self):
        # None of them is no text: they make a job or none.
        for row in WORKS:
            for text in [row + "\n", "1: send-1\n" + row + "\n", row + "\n1: do\n"]:
                try:
                    self.assertIs(is_job(read_job(text)), True)
                except NoJob:
                    pass

    def test_each_cut_text(self):
        text = show_job(TWO_WAITS)
        for many in range(len(text)):
            if not text[:many].endswith("\n"):
                self.no_text(text[:many], text[:many].count("\n"))
            else:
                self.no_job(text[:many])

    def test_no_job(self):
        self.no_job("1: send-99\n1: do\n")
        self.no_job("1: send-1 send-99\n1: do\n")
        self.no_job("1: send-1\n" * 13)
        self.no_job("1: do\n" * 2)
        self.no_job("1: do\n" * 13)
        self.no_job("".join(f"1: send-{work}\n" for work in range(1, 13)) + "1: do\n")
        self.no_job("1: send-1 send-1\n1: do\n")
        self.no_job("1: send-1 send-2\n1: send-2\n1: do\n")
        self.no_job("1: do send-1\n1: send-1\n")
        self.no_job("1: do\n1: send-1\n")
        self.no_job("1: send-0\n")
        self.no_job("1: send-1\n1: send-0\n")
        self.no_job("1: send-2\n1: do\n1: send-1\n")
        self.no_job("1: send-1\n1: do\n1: do\n")
        self.no_job("1: send-1\n")
        self.no_job("1: do\n" * 5000)

    def test_twelve_rows_are_read(self):
        text = "".join(f"1: send-{work}\n" for work in range(1, 12)) + "1: do\n"
        self.assertEqual(read_job(text), ALL_AT_ONCE)

    def test_no_text_goes_ahead_of_no_job(self):
        self.no_text("1: send-99\n1: do\n0: do\n", 2)
        self.no_text("1: send-0\nx\n", 1)
        self.no_text("1: do\n" * 13 + "1: do", 13)
        self.no_text("1: do\n" * 20 + "\n", 20)
        self.no_text("1: send-0", 0)
        self.no_text("1: do\n" * 5000 + "1 do\n" + "1: do\n", 5000)

    def test_the_first_such_row(self):
        self.no_text("1: send-1\n0: do\nx\n1: do", 1)
        self.no_text("x\n0: do\nx\n1: do", 0)

    def test_thousands_on_end(self):
        for many in (10, 1000, 5000, 9000):
            for row in ["1" * many + ": do", "0" * many + ": do", "0" * many + "1: do", "1: send-" + "9" * many,
                        "1: send-" + "0" * many, "1: " + "send-" * many + "1", "1:" + " " * many + "do", "1: do" + " " * many,
                        "1" + ":" * many + " do", "1: send" + "-" * many + "1", "(" * many, "[" * many, ")" * many,
                        "1: " + "(" * many, "do" * many, "1: " + "do" * many, "1:" + " do" * many, "-" * many, "~" * many,
                        "\t" * many, " " * many, "1: do" + "\t" * many]:
                self.no_text(row + "\n", 0)
                self.no_text("1: send-1\n" + row + "\n1: do\n", 1)
                self.no_text(row, 0)
            self.no_text("\n" * many, 0)
            self.no_text("1: do\n" + "\n" * many, 1)

    def test_other_figures(self):
        # Signs that Python counts as figures, though the document's signs don't.
        for sign in ["\u00b2", "\u0663", "\uff11"]:
            self.no_text(sign + ": do\n", 0)
            self.no_text("1: send-" + sign + "\n", 0)


if __name__ == "__main__":
    unittest.main()
