"""map_of: a turn, a set kept and a set flipped, done any number of times, held against doing it lamp by lamp."""

import random
import time
import unittest

from lampturns.desk import at, long, map_of, once
from tests.helper import lamps_of, number_of, plain_steps, run_once, sets, some_programme, text

ALL = 2 ** 64 - 1
LAST = 2 ** 64 - 1
SOME = 0x123456789abcdef0
OTHER = 0xff00ff0f0f3355aa
TURNS = (0, 1, 2, 31, 32, 63, 64, 65, 127, 128, 2 ** 32, 2 ** 63 + 5, LAST)
COUNTS = (0, 1, 2, 3, 63, 64, 65, 127, 128, 129, 191, 192, 193, 200)
SETS = (0, ALL, 1, 2 ** 63, SOME, OTHER, ALL - 1)
SECONDS = 5


def plain_map(x, k, a, b, n):
    """Done n times in a loop, lamp by lamp."""
    lamps, kept, flipped = lamps_of(x), lamps_of(a), lamps_of(b)
    for time_done in range(n):
        lamps = [(lamps[(lamp - k) % 64] and kept[lamp]) != flipped[lamp] for lamp in range(64)]
    return number_of(lamps)


class Mapped(unittest.TestCase):
    def maps(self, expected, x, k, a, b, n):
        self.assertEqual(map_of(x, k, a, b, n), [0, expected], (x, k, a, b, n))


class TestPlain(Mapped):
    def test_what_the_document_says(self):
        self.maps(0xf0f0, 0x0f0f, 4, ALL, 0, 1)
        self.maps(0x0f00, 0x0f0f, 0, 0xff00, 0, 1)
        self.maps(0x0ff0, 0x0f0f, 0, ALL, 0x00ff, 1)
        # Turned first, then kept, then flipped.
        self.maps(2, 1, 1, 2, 0, 1)
        self.maps(0, 1, 1, 1, 0, 1)
        self.maps(3, 1, 1, 2, 1, 1)
        self.maps(1, 1, 0, 0, 1, 1)

    def test_none_times(self):
        for x in SETS:
            for k in TURNS:
                for a in SETS:
                    self.maps(x, x, k, a, SOME, 0)

    def test_turns_go_modulo_64(self):
        for lamp in (0, 1, 62, 63):
            for k in TURNS:
                self.maps(2 ** ((lamp + k) % 64), 2 ** lamp, k, ALL, 0, 1)
                self.maps(2 ** ((lamp + 2 * k) % 64), 2 ** lamp, k, ALL, 0, 2)
                self.maps(2 ** ((lamp + LAST * k) % 64), 2 ** lamp, k, ALL, 0, LAST)

    def test_each_turn_and_count(self):
        for k in TURNS:
            for n in COUNTS:
                self.maps(plain_map(SOME, k, OTHER, 0x0123456789abcdef, n), SOME, k, OTHER, 0x0123456789abcdef, n)
                self.maps(plain_map(OTHER, k, ALL - 1, 2 ** 63 + 1, n), OTHER, k, ALL - 1, 2 ** 63 + 1, n)

    def test_each_set(self):
        for x in (0, ALL, SOME):
            for a in SETS:
                for b in SETS:
                    for k, n in ((0, 1), (0, 2), (1, 3), (63, 64), (65, 65), (LAST, 66)):
                        self.maps(plain_map(x, k, a, b, n), x, k, a, b, n)

    def test_single_lamps(self):
        for lamp in range(64):
            for k, n in ((0, 1), (0, 2), (1, 1), (1, 64), (32, 3), (63, 65)):
                for x in (0, ALL, SOME):
                    self.maps(plain_map(x, k, 2 ** lamp, 0, n), x, k, 2 ** lamp, 0, n)
                    self.maps(plain_map(x, k, ALL, 2 ** lamp, n), x, k, ALL, 2 ** lamp, n)
                    self.maps(plain_map(x, k, ALL ^ 2 ** lamp, 2 ** lamp, n), x, k, ALL ^ 2 ** lamp, 2 ** lamp, n)

    def test_random(self):
        source = random.Random(31)
        for tried in range(1500):
            x, a, b = [sets(source) for k in range(3)]
            k, n = source.choice([source.randrange(64), source.choice(TURNS)]), source.randrange(200)
            self.maps(plain_map(x, k, a, b, n), x, k, a, b, n)


class TestHuge(Mapped):
    def test_some_times_and_then_the_others(self):
        source = random.Random(32)
        for tried in range(3000):
            x, a, b = [sets(source) for k in range(3)]
            k = source.choice([source.randrange(64), source.randrange(2 ** 64)])
            n = source.choice([LAST, source.randrange(2 ** 64), source.randrange(2 ** source.randrange(1, 65))])
            m = source.choice([0, min(1, n), n, n // 2, source.randrange(n + 1)])
            then = map_of(map_of(x, k, a, b, m)[1], k, a, b, n - m)
            self.assertEqual(then, map_of(x, k, a, b, n), (x, k, a, b, n, m))

    def test_against_near_counts(self):
        # After 64 times what comes comes again each 128 times.
        source = random.Random(33)
        for tried in range(300):
            x, a, b = [sets(source) for k in range(3)]
            k = source.randrange(2 ** 64)
            n = source.choice([LAST, LAST - 1, 2 ** 63, source.randrange(192, 2 ** 64)])
            self.maps(plain_map(x, k, a, b, 64 + (n - 64) % 128), x, k, a, b, n)

    def test_known(self):
        self.maps(ALL, 0, 0, ALL, ALL, LAST)
        self.maps(0, 0, 0, ALL, ALL, LAST - 1)
        self.maps(2 ** 63, 1, 1, ALL, 0, LAST)
        self.maps(2, 1, LAST, ALL, 0, LAST)
        self.maps(SOME, ALL, LAST, 0, SOME, LAST)
        self.maps(0, ALL, 1, ALL - 1, 0, LAST)

    def test_soon(self):
        begin = time.perf_counter()
        for k in TURNS:
            for x in SETS:
                for b in SETS:
                    self.assertEqual(map_of(x, k, ALL - 1, b, LAST)[0], 0)
        self.assertLess(time.perf_counter() - begin, SECONDS)


class TestAsProgramme(Mapped):
    """The same steps in a programme's text: a turn, a clear of what isn't kept, a flip."""

    def steps(self, k, a, b):
        return [f"turn {k % 64}", f"clear {ALL ^ a:016x}", f"flip {b:016x}"]

    def test_against_once_and_at(self):
        source = random.Random(34)
        for tried in range(300):
            x, a, b = [sets(source) for k in range(3)]
            k, n = source.randrange(2 ** 64), source.choice([1, 2, 64, source.randrange(1, 2 ** 32), 4294967295])
            steps = self.steps(k, a, b)
            mapped = map_of(x, k, a, b, n)
            self.assertEqual(once(x, text("show s", f"repeat {n}", *steps, "end", "stop")), mapped)
            self.assertEqual(at(x, n, text("show s", f"repeat {n}", *steps, "wait 1", "end", "stop")), mapped)
            tick = source.choice([0, LAST, source.randrange(2 ** 64)])
            t = text("show s", "wait 1", *steps, "again")
            self.assertEqual(at(x, tick, t), map_of(x, k, a, b, tick))

    def test_repeats_in_repeats(self):
        steps = self.steps(7, OTHER, SOME)
        lines = ["show s"] + ["repeat 65535", "repeat 65537"] * 2 + steps + ["end"] * 4 + ["stop"]
        self.assertEqual(once(5, text(*lines)), map_of(5, 7, OTHER, SOME, 65535 * 65537 * 65535 * 65537))

    def test_any_programme_is_one_turn_one_set_kept_one_set_flipped(self):
        source = random.Random(35)
        for tried in range(200):
            lines = some_programme(source)
            t = text(*lines)
            turn = sum([int(value) for word, value in plain_steps(lines) if word == "turn"])
            flip = once(0, t)[1]
            # What is kept shows as the difference that all lamps make.
            keep = once(ALL, t)[1] ^ flip
            for x in (0, ALL, sets(source), sets(source)):
                self.maps(run_once(lines, x)[1], x, turn, keep, flip, 1)
            if lines[-1] == "again":
                rounds = source.randrange(2 ** 50)
                behind = map_of(SOME, turn, keep, flip, rounds)[1]
                self.assertEqual(at(SOME, rounds * long(t)[1], t), at(behind, 0, t))


if __name__ == "__main__":
    unittest.main()
