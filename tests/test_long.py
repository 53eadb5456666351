"""long: how a programme ends, and how many ticks its steps last, once."""

import random
import unittest

from lampturns.desk import judge, long
from tests.helper import run_once, some_programme, text

SET = "00000000000000ff"


class TestLong(unittest.TestCase):
    def lasts(self, answer, *lines):
        self.assertEqual(long(text(*lines)), answer)
        self.assertEqual(judge(text(*lines)), [0])

    def test_endings(self):
        self.lasts([0, 0], "show s", "stop")
        self.lasts([0, 5], "show s", "wait 5", "stop")
        self.lasts([1, 5], "show s", "wait 5", "again")

    def test_only_waits_last(self):
        self.lasts([0, 0], "show s", f"set {SET}", f"clear {SET}", f"flip {SET}", "turn 63", "stop")
        self.lasts([1, 12], "show s", f"set {SET}", "wait 5", "turn 9", "wait 7", f"flip {SET}", "again")

    def test_repeats(self):
        self.lasts([1, 15], "show s", "repeat 5", "wait 3", "end", "again")
        self.lasts([1, 5], "show s", "repeat 1", "wait 5", "end", "again")
        self.lasts([0, 0], "show s", "repeat 4294967295", "turn 1", "end", "stop")
        self.lasts([1, 1 + 2 * (10 + 3 * 100 + 1000) + 5],
                   "show s", "wait 1", "repeat 2", "wait 10", "repeat 3", "wait 100", "end", "wait 1000", "end",
                   "wait 5", "again")
        self.lasts([0, 2 * 7 + 3 * 11],
                   "show s", "repeat 2", "wait 7", "end", "repeat 3", "wait 11", "end", "stop")

    def test_parts(self):
        self.lasts([0, 0], "show s", "part a", "wait 9", "end", "stop")
        self.lasts([0, 9], "show s", "part a", "wait 9", "end", "do a", "stop")
        self.lasts([0, 27], "show s", "part a", "wait 9", "end", "do a", "do a", "do a", "stop")
        self.lasts([0, 7], "show s", "part a", "wait 9", "end", "part b", "wait 7", "end", "do b", "stop")

    def test_parts_that_use_parts(self):
        self.lasts([1, 4 + 2 * (4 + 3 * 4 + 1)],
                   "show s", "part a", "wait 4", "end",
                   "part b", "do a", "repeat 3", "do a", "end", "wait 1", "end",
                   "do a", "repeat 2", "do b", "end", "again")

    def test_sixteen_parts_double_each_time(self):
        lines = ["part p0", "wait 3", "end"]
        for k in range(1, 16):
            lines += [f"part p{k}", f"do p{k - 1}", f"do p{k - 1}", "end"]
        self.lasts([1, 3 * 2 ** 15], "show s", *lines, "do p15", "again")

    def test_eight_repeats(self):
        self.lasts([1, 2 ** 56 * 64], "show s", *["repeat 128"] * 8, "wait 64", *["end"] * 8, "again")

    def test_most_ticks(self):
        self.lasts([1, 2 ** 62], "show s", "repeat 2147483648", "wait 2147483648", "end", "again")
        self.lasts([0, 2 ** 62 - 1], "show s", "repeat 2147483647", "wait 2147483649", "end", "stop")
        self.lasts([0, 4294967295 * 1073741824], "show s", "repeat 1073741824", "wait 4294967295", "end", "stop")
        self.lasts([0, 2 ** 62], "show s", "repeat 1073741824", "wait 4294967295", "wait 1", "end", "stop")

    def test_refused(self):
        self.assertEqual(long([]), [-6])
        self.assertEqual(long(text("show s", "again")), [-6])
        self.assertEqual(long(text("show s", "repeat 4294967295", "wait 4294967295", "end", "stop")), [-6])
        self.assertEqual(long([0] * 65537), [-2])


class TestAsRun(unittest.TestCase):
    """What running the steps one behind another takes: a repeat is N times its steps, a part is its steps."""

    def test_random_programmes(self):
        source = random.Random(20261116)
        some = 0
        for k in range(500):
            lines = some_programme(source)
            ticks = len(run_once(lines, 0)[0])
            some += ticks > 1
            self.assertEqual(long(text(*lines)), [int(lines[-1] == "again"), ticks], lines)
        self.assertGreater(some, 200)


if __name__ == "__main__":
    unittest.main()
