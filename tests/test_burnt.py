"""burnt: at how many ticks a lamp shines, held against running the steps tick by tick."""

import random
import time
import unittest

from lampturns.desk import at, burnt, long
from tests.helper import far_programme, run, sets, some_programme, text

ALL = 2 ** 64 - 1
LAST = 2 ** 64 - 1
EVERY = "f" * 16
SET = "00ff00000000f00f"
SOME = 0x123456789abcdef0
SECONDS = 5


def shining(shown, lamp, a, b):
    return sum([s >> lamp & 1 for s in shown[a:b]])


class Burnt(unittest.TestCase):
    def burns(self, expected, x, a, b, lamp, *lines):
        self.assertEqual(burnt(x, a, b, lamp, text(*lines)), [0, expected], (x, a, b, lamp, lines[:40]))

    def as_run(self, source, x, lines, tries=40):
        """At random ticks and lamps, against a plain run."""
        t = text(*lines)
        ticks = 4 * long(t)[1] + 4
        shown = run(lines, x, ticks)
        for k in range(tries):
            a, b = sorted([source.randrange(ticks + 1), source.randrange(ticks + 1)])
            lamp = source.randrange(64)
            self.burns(shining(shown, lamp, a, b), x, a, b, lamp, *lines)


class TestAsRun(Burnt):
    """Promises 2 and 3, at programmes of all kinds of steps."""

    def test_every_lamp(self):
        lines = ["show s", "part a", "turn 7", "wait 1", "end", "repeat 5", "flip " + SET, "do a", "wait 2",
                 "clear 0f0f0f0f0f0f0f0f", "end", "set 8000000000000001", "wait 1"]
        for ending in ("again", "stop"):
            for x in (0, ALL, SOME):
                shown = run(lines + [ending], x, 60)
                for lamp in range(64):
                    self.burns(shining(shown, lamp, 0, 60), x, 0, 60, lamp, *lines, ending)
                    self.burns(shining(shown, lamp, 3, 30), x, 3, 30, lamp, *lines, ending)

    def test_every_begin_and_end(self):
        lines = ["show s", "flip 0000000000000001", "wait 2", "turn 1", "repeat 2", "turn 63", "wait 1", "end"]
        for ending in ("again", "stop"):
            shown = run(lines + [ending], 2, 20)
            for a in range(20):
                for b in range(a, 20):
                    for lamp in (0, 1, 63):
                        self.burns(shining(shown, lamp, a, b), 2, a, b, lamp, *lines, ending)

    def test_each_kind_of_step(self):
        source = random.Random(11)
        for step in ("set " + SET, "clear " + SET, "flip " + SET, "turn 0", "turn 1", "turn 63", "flip " + EVERY):
            for x in (0, ALL, SOME):
                self.as_run(source, x, ["show s", step, "stop"], 5)
                self.as_run(source, x, ["show s", step, "wait 1", "again"])
                self.as_run(source, x, ["show s", "wait 2", step, "again"])
                self.as_run(source, x, ["show s", "repeat 5", step, "wait 1", "end", "wait 1", "again"])
                self.as_run(source, x, ["show s", "part a", step, "end", "do a", "wait 2", "do a", "do a", "wait 1",
                                        "again"])

    def test_no_ticks(self):
        for x, expected in ((0, 0), (2, 7)):
            self.burns(expected, x, 3, 10, 1, "show s", "stop")
            self.burns(expected, x, 3, 10, 2, "show s", "repeat 3", "turn 3", "end", "turn 56", "stop")
        self.burns(7, 0, 3, 10, 5, "show s", "part a", "repeat 3", "end", "flip " + SET, "flip " + EVERY, "end",
                   "do a", "stop")

    def test_random_programmes(self):
        source = random.Random(12)
        for k in range(500):
            self.as_run(source, sets(source), some_programme(source))


class TestWhere(Burnt):
    LINES = ("show s", "flip 0000000000000001", "wait 10", "again")

    def test_no_ticks_at_all(self):
        for tick in (0, 1, 9, 10, 2 ** 63, LAST):
            self.burns(0, ALL, tick, tick, 3, *self.LINES)
            self.burns(0, ALL, tick, tick, 3, "show s", "stop")

    def test_within_one_wait(self):
        self.burns(6, 0, 2, 8, 0, *self.LINES)
        self.burns(0, 0, 12, 18, 0, *self.LINES)
        self.burns(1, 0, 9, 10, 0, *self.LINES)
        self.burns(0, 0, 10, 11, 0, *self.LINES)

    def test_in_rounds(self):
        self.burns(10, 0, 0, 20, 0, *self.LINES)
        self.burns(15, 0, 0, 25, 0, *self.LINES)
        self.burns(3 + 5, 0, 7, 25, 0, *self.LINES)

    def test_far_rounds(self):
        far = 2 ** 62 * 3 // 20 * 20
        self.burns(10, 0, far, far + 20, 0, *self.LINES)
        self.burns(3 + 5, 0, far + 7, far + 25, 0, *self.LINES)
        self.burns(far // 2, 0, 0, far, 0, *self.LINES)
        self.burns(far // 2 + 10, 0, 0, far + 20, 0, *self.LINES)

    def test_behind_the_end(self):
        lines = ("show s", "wait 5", "flip 0000000000000001", "wait 5", "turn 1", "stop")
        self.burns(0, 0, 10, LAST, 0, *lines)
        self.burns(LAST - 10, 0, 0, LAST, 1, *lines)
        self.burns(5, 0, 0, LAST, 0, *lines)
        self.burns(LAST - 2 ** 63, 0, 2 ** 63, LAST, 1, *lines)
        self.burns(1, 0, LAST - 1, LAST, 1, *lines)

    def test_from_the_first_tick_to_the_last(self):
        self.burns(2 ** 63, 0, 0, LAST, 0, "show s", "flip " + EVERY, "wait 1", "again")
        self.burns(2 ** 63 - 1, ALL, 0, LAST, 0, "show s", "flip " + EVERY, "wait 1", "again")
        self.burns(LAST, ALL, 0, LAST, 63, "show s", "turn 1", "wait 1", "again")
        self.burns(0, 0, 0, LAST, 63, "show s", "turn 1", "wait 1", "again")
        self.burns(LAST, 0, 0, LAST, 63, "show s", "set 8000000000000000", "wait 4294967295", "again")
        self.burns(LAST, 2, 0, LAST, 1, "show s", "stop")
        for lamp in range(64):
            # Lamp 0 shines first at tick 63, and tick 2^64 - 1 isn't counted.
            self.burns(2 ** 58 - (lamp == 0), 1, 0, LAST, lamp, "show s", "turn 1", "wait 1", "again")


class TestFar(Burnt):
    """After 64 rounds what shines comes again each 128 rounds; so far rounds are held against near ones."""

    def far_sum(self, shown, lamp, ticks, tick):
        """How many of the ticks before this one show the lamp; shown are the ticks of 192 rounds."""
        rounds, offset = divmod(tick, ticks)
        cycles = max(rounds - 64, 0) // 128
        near = (rounds - 128 * cycles) * ticks + offset
        return shining(shown, lamp, 0, near) + cycles * shining(shown, lamp, 64 * ticks, 192 * ticks)

    def test_again(self):
        source = random.Random(13)
        for k in range(80):
            lines, x = some_programme(source, "again"), sets(source)
            ticks = long(text(*lines))[1]
            if ticks > 40:
                continue
            shown = run(lines, x, 192 * ticks)
            for j in range(20):
                a, b = sorted([source.choice([source.randrange(2 ** source.randrange(1, 65)), LAST - j, j])
                               for end in range(2)])
                lamp = source.randrange(64)
                expected = self.far_sum(shown, lamp, ticks, b) - self.far_sum(shown, lamp, ticks, a)
                self.burns(expected, x, a, b, lamp, *lines)

    def test_repeats(self):
        source = random.Random(14)
        for k in range(60):
            steps = [f"flip {sets(source):016x}", "wait 1", f"turn {source.choice([0, 32, source.randrange(64)])}",
                     f"clear {sets(source):016x}", "wait 2", f"set {sets(source):016x}", f"flip {sets(source):016x}"]
            source.shuffle(steps)
            x = sets(source)
            count = source.choice([4294967295, source.randrange(1, 4294967296), source.randrange(1, 300)])
            shown = run(["show s", *steps, "again"], x, 192 * 3)
            lines = ["show s", f"repeat {count}", *steps, "end", "stop"]
            for j in range(10):
                a, b = sorted([source.choice([source.randrange(3 * count + 1), 3 * count, 0]) for end in range(2)])
                lamp = source.randrange(64)
                self.burns(self.far_sum(shown, lamp, 3, b) - self.far_sum(shown, lamp, 3, a), x, a, b, lamp, *lines)

    def test_sums_and_single_ticks(self):
        source = random.Random(15)
        for k in range(150):
            t, x = text(*far_programme(source)), sets(source)
            ticks = long(t)[1]
            lamp = source.randrange(64)
            for j in range(4):
                spans = [2 ** 64, ticks + 1, 2 * ticks + 2, source.randrange(1, 2 ** 64)]
                a, b, c = sorted([source.randrange(min(source.choice(spans), 2 ** 64)) for end in range(3)])
                parts = [burnt(x, a, b, lamp, t)[1], burnt(x, b, c, lamp, t)[1]]
                self.assertEqual(burnt(x, a, c, lamp, t), [0, sum(parts)])
                self.assertTrue(0 <= parts[0] <= b - a and 0 <= parts[1] <= c - b)
                if b < LAST:
                    self.assertEqual(burnt(x, b, b + 1, lamp, t), [0, at(x, b, t)[1] >> lamp & 1])

    def test_all_lamps_of_a_turned_set(self):
        lines = ["show s", "repeat 1000003", "repeat 1000", "turn 5", "wait 3", "end", "turn 1", "end", "again"]
        for a, b in ((0, LAST), (12345, 2 ** 60), (2 ** 40, 2 ** 40 + 12345)):
            told = [burnt(7, a, b, lamp, text(*lines))[1] for lamp in range(64)]
            self.assertEqual(sum(told), 3 * (b - a))


class TestSoon(Burnt):
    def soon(self, expected, x, a, b, lamp, *lines):
        begin = time.perf_counter()
        self.burns(expected, x, a, b, lamp, *lines)
        self.assertLess(time.perf_counter() - begin, SECONDS)

    def test_longest_texts(self):
        end = 4294967295 * 1023
        self.soon(end // 64, 1, 0, end // 64 * 64, 9,
                  "show s", *["repeat 4294967295", "turn 1", "wait 1", "end"] * 1023, "stop")
        self.soon(2 ** 58 - 1, 1, 0, LAST, 0,
                  "show s", *["repeat 4294967295", "turn 1", "wait 1", "end"] * 1023, "again")
        self.soon(2 ** 63, 0, 0, LAST, 0, "show s", *["flip " + EVERY, "wait 1"] * 1023, "again")
        self.soon(LAST, 1, 0, LAST, 0, "show s", *["repeat 4294967295", "end"] * 2046, "wait 1", "again")

    def test_deepest_repeats(self):
        eight = ["repeat 4294967295"] * 8 + ["turn 1"] + ["end"] * 8
        self.soon(2 ** 58 - 1, 1, 0, LAST, 0, "show s", *eight, "wait 1", "again")
        lines = ["show s"] + ["repeat 128"] * 8 + ["turn 1", "wait 64"] + ["end"] * 8
        self.soon(2 ** 56, 1, 0, 2 ** 62, 5, *lines, "again")
        self.soon(2 ** 58, 1, 0, LAST, 5, *lines, "again")
        self.soon(2 ** 58 - 1, 1, 0, LAST, 0, *lines, "again")
        self.soon(2 ** 56, 1, 0, LAST, 5, *lines, "stop")

    def test_parts_in_repeats(self):
        lines = ["show s"]
        for k in range(16):
            inner = [f"do p{k - 1}"] if k > 0 else ["turn 1", "wait 1"]
            lines += [f"part p{k}"] + ["repeat 2"] * 3 + ["repeat 1"] * 5 + inner + ["end"] * 8 + ["end"]
        self.soon(2 ** 42, 1, 0, 2 ** 48, 0, *lines, "do p15", "stop")
        self.soon(2 ** 58 - 1, 1, 0, LAST, 0, *lines, "do p15", "again")

    def test_parts_that_are_not_used(self):
        lines = ["show s"]
        for k in range(16):
            lines += [f"part p{k}"] + ["repeat 4294967295"] * 8 + ["turn 3", "wait 4294967295"]
            lines += [f"do p{k - 1}"] * (200 if k else 0) + ["end"] * 8 + ["end"]
        self.soon(LAST, 1, 0, LAST, 0, *lines, "wait 1", "again")


class TestRefused(Burnt):
    RIGHT = text("show s", "wait 1", "again")

    def refused(self, answer, a, b, lamp, t):
        for x in (0, ALL):
            self.assertEqual(burnt(x, a, b, lamp, t), answer, (a, b, lamp))

    def test_lamps(self):
        for lamp in (64, 65, 127, 2 ** 32, LAST):
            self.refused([-1], 0, 5, lamp, self.RIGHT)
            self.refused([-1], 5, 5, lamp, self.RIGHT)
        for lamp in (0, 63):
            self.assertEqual(burnt(ALL, 0, 5, lamp, self.RIGHT), [0, 5])
            self.assertEqual(burnt(0, 0, 5, lamp, self.RIGHT), [0, 0])

    def test_a_above_b(self):
        for a, b in ((1, 0), (LAST, 0), (LAST, LAST - 1), (2 ** 63 + 1, 2 ** 63)):
            self.refused([-1], a, b, 3, self.RIGHT)
            self.refused([-1], a, b, 64, self.RIGHT)

    def test_no_programme_is_told_first(self):
        for t in ([], text("show s"), text("show s", "again"), [0] * 65536):
            self.refused([-6], 0, 1, 0, t)
            self.refused([-6], 1, 0, 0, t)
            self.refused([-6], 0, 1, 64, t)

    def test_too_long_is_told_first_of_all(self):
        for t in ([0] * 65537, [10] * 66000):
            self.refused([-2], 0, 1, 0, t)
            self.refused([-2], 1, 0, 64, t)


if __name__ == "__main__":
    unittest.main()
