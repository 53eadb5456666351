"""once and at: what shines behind the steps and at a tick, held against running the steps one behind another."""

import random
import time
import unittest

from lampturns.desk import at, judge, long, once
from tests.helper import run, run_once, sets, some_programme, some_steps, text

ALL = 2 ** 64 - 1
LAST = 2 ** 64 - 1
NONE = "0" * 16
EVERY = "f" * 16
SET = "00ff00000000f00f"
SOME = 0x123456789abcdef0
SECONDS = 5


class Shining(unittest.TestCase):
    def shows(self, x, lines, rounds=3):
        """once, and at for each tick of some rounds, against a plain run of the steps."""
        shown, behind = run_once(lines, x)
        t = text(*lines)
        self.assertEqual(once(x, t), [0, behind], lines)
        ticks = rounds * len(shown) + 3
        self.assertEqual([at(x, tick, t) for tick in range(ticks)], [[0, s] for s in run(lines, x, ticks)], lines)

    def shows_all(self, *steps):
        for x in (0, ALL, 1, 2 ** 63, SOME):
            self.shows(x, ["show s", *steps, "stop"])
            self.shows(x, ["show s", *steps, "wait 2", "again"])
            self.shows(x, ["show s", "wait 2", *steps, "again"])

    def at(self, expected, x, tick, *lines):
        self.assertEqual(at(x, tick, text(*lines)), [0, expected], (x, tick, lines[:40]))

    def once(self, expected, x, *lines):
        self.assertEqual(once(x, text(*lines)), [0, expected], (x, lines[:40]))


class TestSteps(Shining):
    def test_what_the_document_says(self):
        self.once(0xff0f, 0x0f0f, "show s", "set 000000000000f000", "stop")
        self.once(0x0f00, 0x0f0f, "show s", "clear 00000000000000ff", "stop")
        self.once(0x0ff0, 0x0f0f, "show s", "flip 00000000000000ff", "stop")
        self.once(0xf0f0, 0x0f0f, "show s", "turn 4", "stop")
        self.once(1, 2 ** 63, "show s", "turn 1", "stop")
        self.once(2 ** 63, 1, "show s", "turn 63", "stop")
        self.once(0x0f0f, 0x0f0f, "show s", "wait 4", "stop")

    def test_each_kind_alone(self):
        for word in ("set", "clear", "flip"):
            for digits in (NONE, EVERY, SET, "8000000000000001", "7fffffffffffffff"):
                self.shows_all(f"{word} {digits}")
        for k in range(64):
            self.shows_all(f"turn {k}")
        self.shows_all("wait 1")
        self.shows_all("wait 5")

    def test_every_lamp_and_turn(self):
        for lamp in range(64):
            for k in (0, 1, 31, 32, 63):
                self.once(2 ** ((lamp + k) % 64), 2 ** lamp, "show s", f"turn {k}", "stop")

    def test_two_kinds(self):
        kinds = [f"set {SET}", f"clear {SET}", f"flip {SET}", "turn 7", "turn 60", f"flip {EVERY}",
                 "clear 0123456789abcdef"]
        for first in kinds:
            for second in kinds:
                self.shows_all(first, second)
                self.shows_all(first, "wait 1", second)

    def test_turns_that_pass_64(self):
        self.once(1 << 62, 1, "show s", "turn 63", "turn 63", "stop")
        self.once(1, 1, "show s", "turn 63", "turn 1", "stop")
        self.once(1 << 6, 1, "show s", "repeat 10", "turn 7", "end", "stop")
        self.shows_all("turn 40", f"set {SET}", "turn 40", f"flip {SET}", "turn 40", f"clear {SET}", "turn 40")

    def test_no_steps(self):
        for x in (0, ALL, SOME):
            self.once(x, x, "show s", "stop")
            for tick in (0, 1, 2 ** 62, LAST):
                self.at(x, x, tick, "show s", "stop")


class TestTicks(Shining):
    def test_steps_ahead_of_the_first_wait_and_behind_the_last(self):
        lines = ["show s", "set 0000000000000001", "wait 2", "flip 0000000000000003", "wait 1", "turn 4"]
        self.shows(0, lines + ["stop"])
        self.shows(0, lines + ["again"], 70)
        for tick, expected in enumerate([1, 1, 2, 0x20, 0x20]):
            self.at(expected, 0, tick, *lines, "stop")
        for tick, expected in enumerate([1, 1, 2, 0x21, 0x21, 0x22, 0x221]):
            self.at(expected, 0, tick, *lines, "again")

    def test_waits_with_no_change_between(self):
        self.shows_all("flip " + SET, "wait 1", "wait 2", "wait 1", "flip " + SET, "wait 3")

    def test_first_and_last_tick_of_a_wait(self):
        lines = ["show s", "flip " + EVERY, "wait 4294967295", "flip " + EVERY, "wait 4294967295", "stop"]
        last = 4294967294
        for tick, expected in ((0, ALL), (1, ALL), (last, ALL), (last + 1, 0), (2 * last + 1, 0), (2 * last + 2, 0)):
            self.at(expected, 0, tick, *lines)
        lines[-1] = "again"
        for tick, expected in ((2 * last + 1, 0), (2 * last + 2, ALL), (3 * last + 2, ALL), (3 * last + 3, 0)):
            self.at(expected, 0, tick, *lines)

    def test_first_and_last_tick_of_rounds(self):
        many, length = 4294967295, 5
        lines = ["show s", "wait 3", f"repeat {many}", "turn 1", "wait 2", "turn 1", "wait 3", "end",
                 "flip " + EVERY, "wait 1"]
        for ending in ("stop", "again"):
            for k in (0, 1, 2, 31, 32, 33, many - 1):
                begin = 3 + k * length
                for offset, turns in ((0, 1), (1, 1), (2, 2), (4, 2)):
                    self.at(1 << (2 * k + turns) % 64, 1, begin + offset, *lines, ending)
            self.at(1, 1, 0, *lines, ending)
            self.at(1, 1, 2, *lines, ending)
            self.at(ALL ^ 1 << 2 * many % 64, 1, 3 + many * length, *lines, ending)
        self.at(ALL ^ 1 << 62, 1, 4 + many * length, *lines, "stop")
        self.at(ALL ^ 1 << 62, 1, 6 + many * length, *lines, "again")
        self.at(ALL ^ 1 << 63, 1, 7 + many * length, *lines, "again")

    def test_first_and_last_tick_of_a_part(self):
        lines = ["show s", "part a", "turn 1", "wait 7", "turn 1", "end",
                 "wait 2", "do a", "do a", "wait 1", "do a", "stop"]
        shown = [1] * 2 + [2] * 7 + [8] * 7 + [16] + [32] * 7 + [64] * 4
        for tick, expected in enumerate(shown):
            self.at(expected, 1, tick, *lines)

    def test_behind_the_end(self):
        lines = ["show s", "flip " + SET, "wait 5", "turn 3", "stop"]
        behind = run_once(lines, SOME)[1]
        for tick in (5, 6, 10, 2 ** 32, 2 ** 62, 2 ** 63, LAST - 1, LAST):
            self.at(behind, SOME, tick, *lines)
        self.assertNotEqual(run(lines, SOME, 5)[4], behind)

    def test_farthest_tick(self):
        self.at(LAST % 2 * ALL ^ ALL, 0, LAST, "show s", "flip " + EVERY, "wait 1", "again")
        self.at(1 << (LAST + 1) % 64, 1, LAST, "show s", "turn 1", "wait 1", "again")
        self.at(1 << LAST % 64, 1, LAST, "show s", "wait 1", "turn 1", "again")
        self.at(1 << LAST // 3 % 64, 1, LAST, "show s", "wait 3", "turn 1", "again")


class TestEmpty(Shining):
    def test_repeats_and_parts_with_no_steps(self):
        self.shows_all("repeat 3", "end")
        self.once(SOME, SOME, "show s", "repeat 4294967295", "end", "stop")
        self.at(SOME, SOME, 5, "show s", "repeat 4294967295", "end", "wait 1", "again")
        self.shows_all("repeat 2", "repeat 2", "end", "wait 1", "end")
        for ending in (["stop"], ["wait 1", "again"]):
            self.shows(SOME, ["show s", "part a", "end", "do a", "turn 1", "do a", *ending])
            self.shows(SOME, ["show s", "part a", "end", "part b", "do a", "repeat 2", "do a", "end", "end",
                              "do b", *ending])

    def test_repeats_and_parts_with_no_ticks(self):
        self.shows_all("repeat 3", "turn 9", "end", "wait 1", "repeat 5", "flip " + SET, "turn 1", "end")
        self.shows(SOME, ["show s", "part a", "turn 5", "flip " + SET, "end",
                          "do a", "wait 1", "do a", "do a", "wait 2", "again"], 70)

    def test_a_part_that_is_not_used(self):
        self.shows(SOME, ["show s", "part a", "turn 5", "wait 5", "end", "turn 1", "wait 1", "again"])


class TestAsRun(Shining):
    """Promises 1 and 3, at programmes of all kinds of steps."""

    def test_parts_that_use_parts(self):
        lines = ["show s", "part a", "turn 1", "wait 2", "end",
                 "part b", "do a", "flip " + SET, "repeat 3", "do a", "end", "end",
                 "do b", "repeat 2", "wait 1", "do b", "clear 000000000000ffff", "do a", "end"]
        for x in (0, ALL, SOME):
            self.shows(x, lines + ["stop"])
            self.shows(x, lines + ["again"], 5)

    def test_random_programmes(self):
        source = random.Random(1)
        endings = {}
        for k in range(700):
            lines = some_programme(source)
            self.shows(sets(source), lines)
            endings[lines[-1]] = endings.get(lines[-1], 0) + 1
        self.assertGreater(min(endings.values()), 150)

    def test_a_repeat_is_so_many_times_its_steps(self):
        source = random.Random(2)
        steps = [f"flip {SOME:016x}", "turn 3", f"clear {SET}", "turn 62", "wait 1",
                 "repeat 2", "turn 5", "wait 1", "end"]
        for count in (1, 2, 3, 63, 64, 65, 127, 128, 129, 200):
            ahead = some_programme(source, "stop")[:-1]
            t, spelled = text(*ahead, f"repeat {count}", *steps, "end", "stop"), text(*ahead, *steps * count, "stop")
            self.assertEqual([judge(t), long(t)], [[0], long(spelled)])
            for k in range(20):
                x, tick = sets(source), source.randrange(long(t)[1] + 2)
                self.assertEqual(once(x, t), once(x, spelled))
                self.assertEqual(at(x, tick, t), at(x, tick, spelled))

    def test_a_part_is_its_steps(self):
        source = random.Random(6)
        for k in range(50):
            steps = some_steps(source, [])
            own = some_steps(source, ["a"])
            spelled = []
            for line in own:
                spelled += steps if line == "do a" else [line]
            t, plain = text("show s", "part a", *steps, "end", *own, "stop"), text("show s", *spelled, "stop")
            for tick in range(long(t)[1] + 2):
                x = sets(source)
                self.assertEqual([once(x, t), at(x, tick, t)], [once(x, plain), at(x, tick, plain)])

    def test_repeats_of_all_counts(self):
        source = random.Random(3)
        for k in range(30):
            steps = [f"turn {source.randrange(64)}", f"set {sets(source):016x}", f"flip {sets(source):016x}",
                     "turn 1", f"clear {sets(source):016x}"]
            source.shuffle(steps)
            x = sets(source)
            for count in list(range(1, 20)) + [63, 64, 65, 127, 128, 129, 191, 192, 193, 256, 257]:
                lines = ["show s", f"repeat {count}", *steps, "end", "stop"]
                self.once(run_once(lines, x)[1], x, *lines)


class TestFarRounds(Shining):
    """After 64 rounds what shines comes again each 128 rounds; so far rounds are held against near ones."""

    def test_again(self):
        source = random.Random(4)
        for k in range(60):
            lines, x = some_programme(source, "again"), sets(source)
            t = text(*lines)
            ticks = long(t)[1]
            if ticks > 40:
                continue
            near = run(lines, x, 192 * ticks)
            for j in range(30):
                tick = source.choice([LAST - j, 2 ** 63 + j, source.randrange(2 ** 64), source.randrange(2 ** 40)])
                rounds, offset = divmod(tick, ticks)
                if rounds >= 64:
                    rounds = 64 + (rounds - 64) % 128
                self.assertEqual(at(x, tick, t), [0, near[rounds * ticks + offset]], (lines, x, tick))

    def test_rounds_of_repeats(self):
        source = random.Random(5)
        for k in range(60):
            steps = [f"flip {sets(source):016x}", "wait 1", f"turn {source.randrange(64)}",
                     f"clear {sets(source):016x}",
                     "wait 2", f"set {sets(source):016x}", "turn 1"]
            source.shuffle(steps)
            x, count = sets(source), source.randrange(1000, 4294967296)
            near_count = 64 + (count - 64) % 128
            far, near = (["show s", f"repeat {n}", *steps, "end", "wait 5", "stop"] for n in (count, near_count))
            shown, behind = run_once(near, x)
            self.once(behind, x, *far)
            for tick in range(-5, 5):
                self.at(shown[-5] if tick >= 0 else shown[tick - 5], x, 3 * count + tick, *far)


class TestSoon(Shining):
    def soon(self, expected_once, expected_at, x, tick, *lines):
        t = text(*lines)
        begin = time.perf_counter()
        self.assertEqual(once(x, t), expected_once)
        self.assertEqual(at(x, tick, t), expected_at)
        self.assertLess(time.perf_counter() - begin, SECONDS)

    def eight(self, count, *steps):
        return ["show s"] + [f"repeat {count}"] * 8 + list(steps) + ["end"] * 8

    def test_eight_repeats_without_ticks(self):
        # 4294967295 is 63 modulo 64, so its eighth power is 1.
        lines = self.eight(4294967295, "turn 1", "flip " + EVERY)
        self.soon([0, ALL ^ 2], [0, ALL ^ 2], 1, LAST, *lines, "stop")
        self.soon([0, ALL ^ 2], [0, ALL ^ 2], 1, 0, *lines, "stop")
        self.soon([0, ALL ^ 2], [0, 1 << (LAST + 1) % 64 ^ ALL * (1 - LAST % 2)], 1, LAST, *lines, "wait 1", "again")
        seven = ["show s"] + ["repeat 4294967295"] * 7 + ["turn 1"] + ["end"] * 7
        self.soon([0, 2 ** 63], [0, 2 ** 63], 1, LAST, *seven, "stop")

    def test_eight_repeats_with_too_many_ticks(self):
        self.soon([-6], [-6], 1, 5, *self.eight(4294967295, "turn 1", "wait 1"), "stop")
        self.soon([-6], [-6], 1, 5, *self.eight(4294967295, "turn 1", "wait 4294967295"), "again")

    def test_just_as_many_ticks_as_may_be(self):
        lines = self.eight(128, "turn 1", "wait 64")
        self.assertEqual(long(text(*lines, "again")), [1, 2 ** 62])
        for tick in (0, 63, 64, 65, 2 ** 32 + 12345, 2 ** 62 - 1, 2 ** 62 - 64, 2 ** 62, 2 ** 63 + 4321, LAST):
            self.soon([0, 1], [0, 1 << (tick // 64 + 1) % 64], 1, tick, *lines, "again")
            self.soon([0, 1], [0, 1 << (min(tick, 2 ** 62 - 1) // 64 + 1) % 64], 1, tick, *lines, "stop")
        pair = ["show s", "repeat 2147483648", "flip " + EVERY, "wait 2147483647", "flip " + SET, "wait 1", "end"]
        one = [0, SOME]
        self.assertEqual(long(text(*pair, "stop")), [0, 2 ** 62])
        self.soon(one, [0, SOME ^ ALL ^ int(SET, 16) ^ ALL ^ int(SET, 16)], SOME, 2 ** 62, *pair, "stop")
        self.soon(one, [0, SOME], SOME, 2 ** 62 - 1, *pair, "stop")
        self.soon(one, [0, SOME ^ int(SET, 16)], SOME, 2 ** 62 - 2, *pair, "stop")

    def parts_in_repeats(self, inmost):
        """Sixteen parts, each eight repeats deep, each using the one above in its inmost."""
        lines = ["show s"]
        for k in range(16):
            inner = [f"do p{k - 1}"] if k > 0 else inmost
            lines += [f"part p{k}"] + ["repeat 4294967295"] * 8 + inner + ["end"] * 8 + ["end"]
        return lines + ["repeat 4294967295"] * 8 + ["do p15"] + ["end"] * 8

    def test_repeats_in_parts_in_repeats(self):
        lines = self.parts_in_repeats(["turn 1", "flip " + EVERY])
        self.soon([0, ALL ^ 2], [0, ALL ^ 2], 1, LAST, *lines, "stop")
        self.soon([0, ALL ^ 2], [0, 1 << (LAST + 1) % 64 ^ ALL * (1 - LAST % 2)], 1, LAST, *lines, "wait 1", "again")
        self.soon([-6], [-6], 1, LAST, *self.parts_in_repeats(["wait 1"]), "again")

    def test_deepest_way(self):
        lines = ["show s"]
        for k in range(16):
            inner = [f"do p{k - 1}"] if k > 0 else ["turn 1", "wait 1"]
            lines += [f"part p{k}"] + ["repeat 2"] * 3 + ["repeat 1"] * 5 + inner + ["end"] * 8 + ["end"]
        lines += ["repeat 2"] * 8 + ["do p15"] + ["end"] * 8
        self.assertEqual(long(text(*lines, "again")), [1, 2 ** 56])
        for tick in (0, 1, 63, 64, 2 ** 55 + 77, 2 ** 56 - 1, 2 ** 56, LAST):
            self.soon([0, 1], [0, 1 << (tick + 1) % 64], 1, tick, *lines, "again")

    def test_longest_texts(self):
        lines = ["show s", *["turn 1", "wait 1"] * 2047, "again"]
        self.soon([0, 1 << 63], [0, 1 << (LAST + 1) % 64], 1, LAST, *lines)
        lines = ["show s", *["repeat 4294967295", "turn 1", "wait 1", "end"] * 1023, "stop"]
        self.soon([0, 2], [0, 2], 1, 4294967295 * 1023, *lines)
        self.soon([0, 2], [0, 1], 1, 4294967295 * 1023 - 2, *lines)
        lines = ["show s", *["repeat 4294967295", "end"] * 2047, "stop"]
        self.soon([0, 9], [0, 9], 9, LAST, *lines)


class TestRefused(Shining):
    def both(self, answer, t):
        for x in (0, ALL):
            self.assertEqual(once(x, t), answer)
            for tick in (0, 7, LAST):
                self.assertEqual(at(x, tick, t), answer)

    def test_too_long(self):
        self.both([-2], [0] * 65537)
        self.both([-2], [10] * 66000)
        most = text("show s", *[f"clear {SET}"] * 2847, *["turn 0"] * 5, "turn 10", "stop")
        more = text("show s", *[f"clear {SET}"] * 2847, *["turn 0"] * 4, *["turn 10"] * 2, "stop")
        self.assertEqual([len(most), len(more)], [65536, 65537])
        self.assertEqual(once(0, most), [0, 0])
        self.assertEqual(at(0, 0, most), [0, 0])
        self.both([-2], more)

    def test_no_programme(self):
        for t in ([], [0] * 65536, text("show s"), text("show s", "stop")[:-1], text("show s", "end", "stop"),
                  text("show s", "do a", "stop"), text("show s", *["repeat 1"] * 9, *["end"] * 9, "stop"),
                  text("show s", "repeat 4294967295", "wait 4294967295", "end", "stop"), text("show s", "again")):
            self.both([-6], t)


if __name__ == "__main__":
    unittest.main()
