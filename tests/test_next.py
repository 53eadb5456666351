"""next_of: the first tick above one at which something else shines, held against running the steps tick by tick."""

import random
import time
import unittest

from lampturns.desk import at, long, next_of
from tests.helper import far_programme, run, sets, some_programme, text

ALL = 2 ** 64 - 1
LAST = 2 ** 64 - 1
EVERY = "f" * 16
SET = "00ff00000000f00f"
ONE = "0000000000000001"
SOME = 0x123456789abcdef0
SECONDS = 5


class Next(unittest.TestCase):
    def next(self, expected, x, tick, *lines):
        answer = [-5] if expected is None else [0, expected]
        self.assertEqual(next_of(x, tick, text(*lines)), answer, (x, tick, lines[:40]))

    def as_run(self, x, lines, rounds, beyond):
        """At each tick of some rounds, against a plain run of these and as many beyond."""
        ticks = max(long(text(*lines))[1], 1)
        shown = run(lines, x, ticks * (rounds + beyond) + 2)
        for tick in range(ticks * rounds):
            others = [k for k in range(tick + 1, len(shown)) if shown[k] != shown[tick]]
            self.next(others[0] if others else None, x, tick, *lines)


class TestAsRun(Next):
    """Promises 3 and 6, at programmes of all kinds of steps."""

    def test_each_kind_of_step(self):
        for step in ("set " + SET, "clear " + SET, "flip " + SET, "turn 0", "turn 1", "turn 63", "flip " + EVERY):
            for x in (0, ALL, SOME):
                self.as_run(x, ["show s", step, "stop"], 3, 1)
                self.as_run(x, ["show s", step, "wait 2", "again"], 5, 3)
                self.as_run(x, ["show s", "wait 2", step, "again"], 5, 3)
                self.as_run(x, ["show s", "wait 2", step, "stop"], 3, 1)
                self.as_run(x, ["show s", "repeat 5", step, "wait 1", "end", "wait 1", "again"], 5, 3)
                self.as_run(x, ["show s", "part a", step, "end", "do a", "wait 2", "do a", "do a", "wait 1", "again"],
                            5, 3)

    def test_random_programmes(self):
        source = random.Random(21)
        for k in range(600):
            lines = some_programme(source)
            if long(text(*lines))[1] <= 60:
                self.as_run(sets(source), lines, 3, 2)

    def test_later_rounds_too(self):
        source = random.Random(22)
        tried = 0
        while tried < 40:
            lines = some_programme(source, "again")
            if long(text(*lines))[1] <= 6:
                tried += 1
                self.as_run(sets(source), lines, 3, 192)

    def test_random_programmes_of_few_lamps(self):
        # With few lamps steps often change nothing, so changes are farther apart.
        source = random.Random(23)
        steps = ["set " + ONE, "clear " + ONE, "flip " + ONE, "turn 32", "turn 0", "wait 1", "wait 2", "wait 1",
                 "set 0000000100000001", "clear 0000000100000001", "flip 0000000100000001"]
        for k in range(800):
            lines = ["show s", "part a", *source.sample(steps, source.randrange(4)), "end"]
            for j in range(source.randrange(4)):
                inner = source.sample(steps, source.randrange(5)) + ["do a"] * source.randrange(2)
                lines += [f"repeat {source.randrange(1, 4)}", *inner, "end"] if source.randrange(3) else inner
            lines += ["stop"] if source.randrange(2) else ["wait 1", "again"]
            self.as_run(source.choice([0, 1, 2 ** 32, 2 ** 32 + 1]), lines, 3, 2)


class TestWhere(Next):
    def test_the_very_next_tick(self):
        lines = ("show s", "flip " + ONE, "wait 1", "again")
        for tick in (0, 1, 2 ** 32, 2 ** 63, LAST - 1):
            self.next(tick + 1, 0, tick, *lines)
        self.next(10, 0, 9, "show s", "wait 10", "turn 0", "flip " + ONE, "wait 10", "stop")

    def test_within_a_wait(self):
        lines = ("show s", "flip " + ONE, "wait 4294967295", "again")
        for tick in (0, 1, 4294967293, 4294967294):
            self.next(4294967295, 0, tick, *lines)
        self.next(2 * 4294967295, 0, 4294967295, *lines)

    def test_steps_that_change_nothing(self):
        for steps in (["set " + ONE], ["clear 0000000000000002"], ["flip " + SET, "flip " + SET], ["turn 0"],
                      ["turn 40", "turn 24"], ["set " + EVERY, "clear " + EVERY, "set " + ONE],
                      ["repeat 64", "turn 1", "end"], ["wait 1"], ["repeat 3", "wait 1", "set " + ONE, "end"], []):
            self.next(None, 1, 0, "show s", "wait 2", *steps, "wait 1", "again")
            self.next(None, 1, 0, "show s", "wait 2", *steps, "stop")
            ticks = long(text("show s", "wait 2", *steps, "wait 1", "stop"))[1]
            self.next(ticks, 1, 0, "show s", "wait 2", *steps, "wait 1", "flip " + ONE, "wait 1", "again")
            self.next(ticks, 1, 0, "show s", "wait 2", *steps, "wait 1", "flip " + ONE, "stop")

    def test_turns_of_sets_that_stay(self):
        for x in (0, ALL):
            self.next(None, x, 0, "show s", "turn 1", "wait 1", "again")
            self.next(None, x, LAST, "show s", "turn 1", "wait 1", "again")
        self.next(None, 0x5555555555555555, 0, "show s", "turn 2", "wait 1", "again")
        self.next(None, 0x0001000100010001, 9, "show s", "turn 48", "wait 1", "again")
        self.next(10, 0x0001000100010001, 9, "show s", "turn 47", "wait 1", "again")

    def test_what_shines_at_first_is_no_tick(self):
        self.next(None, 0, 0, "show s", "set " + ONE, "wait 1", "again")
        self.next(None, 0, 0, "show s", "set " + ONE, "stop")

    def test_a_later_round_of_the_whole(self):
        self.next(4294967295, 0, 0, "show s", "wait 4294967295", "set " + ONE, "again")
        self.next(None, 0, 4294967295, "show s", "wait 4294967295", "set " + ONE, "again")
        lines = ("show s", "repeat 4294967295", "wait 7", "end", "flip " + ONE, "again")
        self.next(7 * 4294967295, 0, 5, *lines)
        self.next(14 * 4294967295, 0, 7 * 4294967295, *lines)

    def test_within_a_repeat(self):
        lines = ("show s", "wait 5", "repeat 4294967295", "wait 3", "set " + ONE, "wait 2", "end", "stop")
        self.next(8, 0, 0, *lines)
        self.next(8, 0, 7, *lines)
        self.next(None, 0, 8, *lines)
        lines = ("show s", "repeat 4294967295", "wait 3", "set " + ONE, "end", "clear " + ONE, "wait 1", "stop")
        self.next(3, 0, 0, *lines)
        self.next(3 * 4294967295, 0, 3, *lines)
        self.next(3 * 4294967295, 1, 0, *lines)
        self.next(None, 1, 3 * 4294967295, *lines)
        lines = ("show s", "repeat 4294967295", "turn 1", "repeat 3", "wait 1", "end", "end", "again")
        for tick in (0, 3 * 64, 3 * 4294967295 - 3, 2 ** 63 // 3 * 3):
            for offset in range(3):
                self.next(tick + 3, 1, tick + offset, *lines)

    def test_behind_a_repeat_of_very_many_rounds(self):
        lines = ("show s", "repeat 4294967295", "repeat 1073741823", "set " + ONE, "wait 1", "end", "end",
                 "flip " + ONE)
        many = 4294967295 * 1073741823
        for tick in (0, 1, 1073741822, 1073741823, many // 3, many - 1):
            self.next(many, 0, tick, *lines, "stop")
            self.next(None, 0, tick, *lines, "again")
            self.next(many, 0, tick, *lines, "wait 1", "again")
        self.next(None, 0, many, *lines, "stop")
        self.next(many + 1, 0, many, *lines, "wait 1", "again")
        self.next(3 * (many + 1) + many, 0, 3 * (many + 1), *lines, "wait 1", "again")

    def test_only_behind_the_end(self):
        self.next(5, 0, 0, "show s", "wait 5", "flip " + ONE, "stop")
        self.next(5, 0, 4, "show s", "wait 5", "flip " + ONE, "stop")
        for tick in (5, 6, 2 ** 63, LAST - 1, LAST):
            self.next(None, 0, tick, "show s", "wait 5", "flip " + ONE, "stop")

    def test_none_at_all(self):
        for tick in (0, 1, 2 ** 62, 2 ** 63, LAST):
            self.next(None, SOME, tick, "show s", "stop")
            self.next(None, SOME, tick, "show s", "flip " + EVERY, "stop")
            self.next(None, SOME, tick, "show s", "wait 1", "again")
            self.next(None, SOME, tick, "show s", "set " + SET, "wait 9", "again")

    def test_the_last_tick(self):
        # 2^64 - 1 is a multiple of 3, and 2^64 of 2.
        by_three = ("show s", "flip " + ONE, "wait 3", "again")
        for tick in (LAST - 3, LAST - 2, LAST - 1):
            self.next(LAST, 0, tick, *by_three)
        self.next(LAST - 3, 0, LAST - 4, *by_three)
        self.next(None, 0, LAST, *by_three)
        by_two = ("show s", "flip " + ONE, "wait 2", "again")
        self.next(LAST - 1, 0, LAST - 2, *by_two)
        self.next(None, 0, LAST - 1, *by_two)
        self.next(None, 0, LAST, *by_two)
        self.next(LAST, 0, LAST - 1, "show s", "flip " + ONE, "wait 1", "again")
        self.next(None, 0, LAST, "show s", "flip " + ONE, "wait 1", "again")

    def test_a_change_first_at_or_beyond_2_to_the_64(self):
        lines = ("show s", "repeat 2147483648", "wait 2147483648", "end", "flip " + ONE, "again")
        self.next(2 ** 62, 0, 0, *lines)
        self.next(3 * 2 ** 62, 0, 3 * 2 ** 62 - 1, *lines)
        self.next(None, 0, 3 * 2 ** 62, *lines)
        self.next(None, 0, LAST, *lines)
        lines = ("show s", "wait 1", "repeat 2147483648", "wait 2147483647", "end", "flip " + ONE, "again")
        ticks = 2147483648 * 2147483647 + 1
        rounds = 2 ** 64 // ticks
        self.next(rounds * ticks, 0, rounds * ticks - 1, *lines)
        self.next(None, 0, rounds * ticks, *lines)


class TestFar(Next):
    def test_far_programmes(self):
        source = random.Random(24)
        found = [0, 0]
        for k in range(300):
            t, x = text(*far_programme(source)), source.choice([0, ALL, sets(source)])
            ticks = long(t)[1]
            for j in range(4):
                tick = source.randrange(source.choice([1, ticks + 1, 2 ** 63, 2 ** 64]))
                shown, answer = at(x, tick, t), next_of(x, tick, t)
                end = 2 ** 64 if answer == [-5] else answer[1]
                found[answer == [-5]] += 1
                self.assertTrue(tick < end <= 2 ** 64)
                between = [tick + 1, end - 1] + [source.randrange(tick, end) for n in range(20)]
                for other in between:
                    if tick < other < end:
                        self.assertEqual(at(x, other, t), shown)
                if answer != [-5]:
                    self.assertEqual(answer[0], 0)
                    self.assertNotEqual(at(x, end, t), shown)
        self.assertGreater(min(found), 100)


class TestSoon(Next):
    def soon(self, expected, x, tick, *lines):
        begin = time.perf_counter()
        self.next(expected, x, tick, *lines)
        self.assertLess(time.perf_counter() - begin, SECONDS)

    def test_longest_texts(self):
        lines = ["show s", *["repeat 4294967295", "wait 1", "end"] * 1364, "flip " + ONE]
        self.soon(4294967295 * 1364, 0, 0, *lines, "stop")
        self.soon(4294967295 * 1364 * 5, 0, 4294967295 * 1364 * 4, *lines, "again")
        self.soon(None, 0, LAST, *lines, "again")
        self.soon(4093, 0, 0, "show s", *["wait 1"] * 4093, "flip " + ONE, "stop")
        self.soon(4092, 0, 0, "show s", *["turn 1", "wait 2"] * 2046, "flip " + ONE, "again")
        self.soon(None, 0, 0, "show s", *["repeat 4294967295", "end"] * 2047, "stop")

    def test_deepest_repeats(self):
        eight = ["repeat 4294967295"] * 8 + ["turn 1", "flip " + EVERY] + ["end"] * 8
        self.soon(1, 1, 0, "show s", *eight, "wait 1", "again")
        self.soon(None, 1, 0, "show s", *eight, "stop")
        lines = ["show s"] + ["repeat 128"] * 8 + ["set " + ONE, "wait 64"] + ["end"] * 8
        self.soon(2 ** 62, 1, 5, *lines, "turn 1", "stop")
        self.soon(2 ** 62, 1, 5, *lines, "turn 1", "again")
        self.soon(2 ** 63 + 2 ** 62, 1, 2 ** 63, *lines, "turn 1", "again")
        self.soon(None, 1, 2 ** 63 + 2 ** 62, *lines, "turn 1", "again")
        self.soon(None, 1, 5, *lines, "flip " + ONE, "again")

    def test_parts_in_repeats(self):
        lines = ["show s"]
        for k in range(16):
            inner = [f"do p{k - 1}"] if k > 0 else ["turn 1", "flip " + EVERY, "flip " + EVERY, "wait 1"]
            lines += [f"part p{k}"] + ["repeat 2"] * 3 + ["repeat 1"] * 5 + inner + ["end"] * 8 + ["end"]
        self.soon(2 ** 48, 0, 0, *lines, "do p15", "flip " + ONE, "stop")
        self.soon(2 ** 48, 0, 2 ** 47 + 3, *lines, "do p15", "flip " + ONE, "again")
        self.soon(None, 0, LAST, *lines, "do p15", "flip " + ONE, "again")

    def test_parts_used_by_many(self):
        lines = ["show s", "part p0", "turn 1", "wait 1", "end"]
        for k in range(1, 7):
            lines += [f"part p{k}"] + [f"do p{k - 1}", "turn 3"] * 200 + ["end"]
        self.soon(200 ** 6, 0, 5, *lines, "do p6", "flip " + ONE, "stop")
        self.soon(6, 1, 5, *lines, "do p6", "flip " + ONE, "stop")


class TestRefused(Next):
    def refused(self, answer, t):
        for x in (0, ALL):
            for tick in (0, 5, LAST):
                self.assertEqual(next_of(x, tick, t), answer)

    def test_none(self):
        self.refused([-5], text("show s", "stop"))

    def test_no_programme_is_told_first(self):
        for t in ([], text("show s"), text("show s", "again"), text("show s", "stop", "stop"), [0] * 65536):
            self.refused([-6], t)

    def test_too_long_is_told_first_of_all(self):
        self.refused([-2], [0] * 65537)
        self.refused([-2], [10] * 66000)


if __name__ == "__main__":
    unittest.main()
