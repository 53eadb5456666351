"""One line read by itself: its first word, and what's told behind it."""

import unittest

from lampturns.lines import read_line, split_lines


class TestLines(unittest.TestCase):
    def reads(self, signs, word, value):
        line = read_line(signs)
        self.assertEqual([line.word, line.value], [word, value])

    def test_values(self):
        self.reads("show abc", "show", "abc")
        self.reads("part 12345678", "part", "12345678")
        self.reads("do a", "do", "a")
        self.reads("turn 0", "turn", 0)
        self.reads("turn 63", "turn", 63)
        self.reads("wait 4294967295", "wait", 4294967295)
        self.reads("repeat 10", "repeat", 10)
        self.reads("end", "end", None)
        self.reads("again", "again", None)
        self.reads("stop", "stop", None)

    def test_sets_have_the_highest_lamps_first(self):
        self.reads("set 0000000000000000", "set", 0)
        self.reads("clear 8000000000000001", "clear", 2 ** 63 + 1)
        self.reads("flip f0000000000000a0", "flip", 15 * 2 ** 60 + 160)
        self.reads("set ffffffffffffffff", "set", 2 ** 64 - 1)

    def test_no_line(self):
        for signs in ("", "x", "set", "turn 64", "wait 0", "stop 1", "?"):
            self.assertIsNone(read_line(signs))

    def test_split(self):
        self.assertEqual(split_lines([]), [""])
        self.assertEqual(split_lines(list(b"a 1\n\nb")), ["a 1", "", "b"])
        self.assertEqual(split_lines(list(b"a\n")), ["a", ""])
        self.assertEqual(split_lines([65, 0, 255, 13, 97]), ["????a"])


if __name__ == "__main__":
    unittest.main()
