"""judge: which texts are a programme's, and of the others the first fault's kind and line."""

import unittest

from lampturns.desk import judge, long
from tests.helper import text

SET = "0123456789abcdef"


def parts(count):
    """That many parts with no steps, p0 and on."""
    lines = []
    for k in range(count):
        lines += [f"part p{k}", "end"]
    return lines


def nested(depth, inmost=()):
    return ["repeat 2"] * depth + list(inmost) + ["end"] * depth


def lines_to(number):
    """A show and steps, so that the next line has this number."""
    return ["show s"] + ["turn 1"] * (number - 1)


class Judged(unittest.TestCase):
    def right(self, *lines):
        self.assertEqual(judge(text(*lines)), [0], lines[-3:])

    def wrong(self, kind, line, *lines):
        self.wrong_text(kind, line, text(*lines))

    def wrong_text(self, kind, line, t):
        self.assertEqual(judge(t), [-6, kind, line], bytes(t)[-60:])
        self.assertEqual(long(t), [-6], bytes(t)[-60:])

    def step(self, line, right):
        """The line as a step of the programme, and behind it a fault that's told if the line has none."""
        if right:
            self.right("show s", line, "stop")
            self.wrong(1, 2, "show s", line, "x")
        else:
            self.wrong(1, 1, "show s", line, "stop")


class TestOrdinary(Judged):
    def test_each_kind_of_step(self):
        self.right("show sign", f"set {SET}", f"clear {SET}", f"flip {SET}", "turn 5", "wait 7", "again")

    def test_no_steps(self):
        self.right("show s", "stop")
        self.right("show s", "part a", "end", "stop")
        self.right("show s", "repeat 3", "end", "stop")

    def test_parts_that_use_parts(self):
        self.right("show s", "part a", "wait 1", "end", "part b", "do a", "repeat 2", "do a", "end", "end",
                   "do b", "do a", "again")

    def test_repeats_in_repeats(self):
        self.right("show s", "repeat 2", "repeat 3", "wait 1", "end", "flip " + SET, "end", "again")

    def test_names_may_be_words_of_the_text(self):
        self.right("show show", "part end", "end", "part part", "do end", "end", "do part", "stop")

    def test_a_part_may_be_called_like_the_show(self):
        self.right("show s", "part s", "end", "do s", "stop")


class TestDocumentExamples(Judged):
    def test_no_bytes(self):
        self.wrong_text(1, 0, [])

    def test_show_without_its_byte_10(self):
        self.wrong_text(1, 0, text("show s")[:-1])

    def test_show_with_it(self):
        self.wrong(2, 1, "show s")

    def test_x_behind_stop(self):
        self.wrong_text(1, 2, text("show s", "stop", "x")[:-1])
        self.wrong(1, 2, "show s", "stop", "x")

    def test_stop_behind_stop(self):
        self.wrong(2, 2, "show s", "stop", "stop")


class TestKind1(Judged):
    def test_no_such_line(self):
        for line in ("x", "", " ", "Show s", "STOP", "sets " + SET, "setx", "jump 1", "?", "stop?", "\xe4", "\0",
                     "stop\r", "stop\t", "#", "wait\t1", "show", "part", "do", "set", "clear", "flip", "turn",
                     "wait", "repeat"):
            self.step(line, False)

    def test_words_too_many_or_too_few(self):
        for line in ("end 1", "again 1", "stop 1", "stop stop", "wait 1 1", "turn 1 1", f"set {SET} {SET}",
                     "repeat 1 1", "do a b", "part a b", "show s s"):
            self.step(line, False)

    def test_blanks(self):
        for line in ("wait  1", " wait 1", "wait 1 ", "wait ", " stop", "stop ", "do ", "turn  1", "set  " + SET,
                     f"set {SET} ", "part ", "part  a", "end ", " end", "repeat  2", "repeat 2 "):
            self.step(line, False)
        for line in ("show  s", " show s", "show s ", "show ", "show"):
            self.wrong(1, 0, line, "stop")

    def test_turn(self):
        for k in range(64):
            self.step(f"turn {k}", True)
        for k in ("64", "65", "99", "100", "4294967296", "00", "01", "063", "-1", "+1", "1.", "1a", "a", "0x1", "1_0"):
            self.step(f"turn {k}", False)

    def test_wait(self):
        for n in (1, 2, 9, 10, 4294967294, 4294967295):
            self.step(f"wait {n}", True)
        for n in ("0", "4294967296", "4294967300", "9999999999", "10000000000", "42949672950", "00", "01",
                  "04294967295", "-1", "+1", "1a", "a", "1_0", "9" * 4000, "9" * 60000, "0" * 60000):
            self.step(f"wait {n}", False)

    def test_repeat(self):
        for n in (1, 2, 10, 4294967294, 4294967295):
            self.right("show s", f"repeat {n}", "end", "stop")
        for n in ("0", "4294967296", "9999999999", "10000000000", "00", "01", "04294967295", "-1", "a", "9" * 60000):
            self.wrong(1, 1, "show s", f"repeat {n}", "end", "stop")

    def test_sets(self):
        for word in ("set", "clear", "flip"):
            for digits in ("0" * 16, "f" * 16, SET, "fedcba9876543210"):
                self.step(f"{word} {digits}", True)
            for digits in ("0" * 15, "0" * 17, "", "0", "ABCDEF0123456789", "000000000000000A", "000000000000000g",
                           "0x00000000000000", "00000000_0000000", "-000000000000000", "0" * 60000):
                self.step(f"{word} {digits}", False)

    def test_names(self):
        right = ("a", "z", "0", "9", "abcdefgh", "12345678", "a1b2c3d4")
        wrong = ("", "abcdefghi", "123456789", "A", "aB", "a_b", "a-b", "a.", "{", "`", "/", ":", "\xe4", "\0", "a\r",
                 "?", "\x7f", "\xff", "a" * 60000)
        for name in right:
            self.right(f"show {name}", "stop")
            self.right("show s", f"part {name}", "end", f"do {name}", "stop")
        for name in wrong:
            self.wrong(1, 0, f"show {name}", "stop")
            self.wrong(1, 1, "show s", f"part {name}", "end", "stop")
            self.wrong(1, 1, "show s", f"do {name}", "stop")

    def test_any_other_byte(self):
        allowed = b"abcdefghijklmnopqrstuvwxyz0123456789"
        for byte in range(256):
            t = list(b"show ") + [byte] + list(b"\nstop\n")
            if byte in allowed:
                self.assertEqual(judge(t), [0])
            else:
                self.wrong_text(1, 0, t)

    def test_byte_10_missing(self):
        self.wrong_text(1, 1, text("show s", "stop")[:-1])
        self.wrong_text(1, 2, text("show s", "wait 1", "again")[:-1])
        self.wrong_text(1, 2, text("show s", "stop", "stop")[:-1])
        self.wrong_text(1, 2, text("show s", "stop") + [32])
        self.wrong_text(1, 1, text("show s") + [0])

    def test_empty_lines(self):
        self.wrong_text(1, 0, [10])
        self.wrong(1, 2, "show s", "stop", "")
        self.wrong(1, 1, "show s", "", "stop")


class TestKind2(Judged):
    def test_line_0_must_be_a_show(self):
        for line in ("stop", "again", "end", "part a", "do a", "wait 1", "turn 0", "repeat 1", f"set {SET}"):
            self.wrong(2, 0, line, "stop")

    def test_no_other_line_is_a_show(self):
        self.wrong(2, 1, "show s", "show s", "stop")
        self.wrong(2, 2, "show s", "part a", "show b", "end", "stop")
        self.wrong(2, 2, "show s", "wait 1", "show b", "again")
        self.wrong(2, 2, "show s", "stop", "show s")

    def test_part_where_something_is_not_ended(self):
        self.wrong(2, 2, "show s", "part a", "part b", "end", "end", "stop")
        self.wrong(2, 3, "show s", "part a", "repeat 1", "part b")
        self.wrong(2, 2, "show s", "repeat 1", "part b")

    def test_part_behind_a_step_of_the_programme(self):
        for line in (f"set {SET}", f"clear {SET}", f"flip {SET}", "turn 0", "wait 1"):
            self.wrong(2, 2, "show s", line, "part b", "end", "stop")
        self.wrong(2, 3, "show s", "repeat 1", "end", "part b", "end", "stop")
        self.wrong(2, 4, "show s", "part a", "end", "do a", "part b", "end", "stop")

    def test_part_behind_the_steps_of_parts(self):
        self.right("show s", "part a", "wait 1", "repeat 2", "turn 1", "end", "end", "part b", "do a", "end", "stop")

    def test_end_with_nothing_to_end(self):
        self.wrong(2, 1, "show s", "end", "stop")
        self.wrong(2, 3, "show s", "part a", "end", "end", "stop")
        self.wrong(2, 3, "show s", "repeat 1", "end", "end", "stop")

    def test_ending_where_something_is_not_ended(self):
        for ending in ("again", "stop"):
            self.wrong(2, 3, "show s", "part a", "wait 1", ending)
            self.wrong(2, 3, "show s", "repeat 1", "wait 1", ending)
            self.wrong(2, 4, "show s", "part a", "repeat 1", "end", ending)
            self.wrong(2, 5, "show s", "repeat 1", "repeat 1", "wait 1", "end", ending)

    def test_anything_behind_the_ending(self):
        for ending in ("again", "stop"):
            for line in ("again", "stop", "wait 1", "turn 0", f"set {SET}", "repeat 1", "part b", "end", "show s"):
                self.wrong(2, 3, "show s", "wait 1", ending, line)

    def test_no_ending(self):
        self.wrong(2, 2, "show s", "wait 1")
        self.wrong(2, 2, "show s", "part a")
        self.wrong(2, 3, "show s", "part a", "end")
        self.wrong(2, 3, "show s", "repeat 1", "wait 1")


class TestKind3(Judged):
    def test_do_of_no_part(self):
        self.wrong(3, 1, "show s", "do a", "stop")
        self.wrong(3, 1, "show s", "do s", "stop")
        self.wrong(3, 3, "show s", "part a", "end", "do b", "stop")
        self.wrong(3, 3, "show s", "part ab", "end", "do a", "stop")

    def test_do_of_a_part_told_later(self):
        self.wrong(3, 2, "show s", "part a", "do b", "end", "part b", "end", "stop")

    def test_do_of_the_part_itself(self):
        self.wrong(3, 2, "show s", "part a", "do a", "end", "stop")
        self.wrong(3, 3, "show s", "part a", "repeat 1", "do a", "end", "end", "stop")
        self.wrong(3, 4, "show s", "part a", "repeat 1", "end", "do a", "end", "stop")

    def test_part_told_twice(self):
        self.wrong(3, 3, "show s", "part a", "end", "part a", "end", "stop")
        self.wrong(3, 5, "show s", "part a", "end", "part b", "end", "part a", "end", "stop")


class TestKind4(Judged):
    def test_parts(self):
        self.right("show s", *parts(16), "do p15", "stop")
        self.wrong(4, 33, "show s", *parts(17), "stop")

    def test_repeats(self):
        self.right("show s", *nested(8), "stop")
        self.wrong(4, 9, "show s", *nested(9), "stop")
        self.right("show s", "part a", *nested(8), "end", "stop")
        self.wrong(4, 10, "show s", "part a", *nested(9), "end", "stop")

    def test_repeats_beside_one_another(self):
        self.right("show s", *nested(8), *nested(8), "stop")
        self.right("show s", *nested(7, nested(1) * 9), "stop")
        self.wrong(4, 11, "show s", *nested(7, nested(1) + nested(2)), "stop")

    def test_what_a_used_part_holds_does_not_count(self):
        self.right("show s", "part a", *nested(8), "end", *nested(8, ["do a"]), "stop")
        self.right("show s", "part a", *nested(8), "end", "part b", *nested(8, ["do a"]), "end",
                   *nested(8, ["do b"]), "stop")
        self.right("show s", "part a", *["turn 1"] * 2000, "end", *["do a"] * 2000, "stop")

    def test_lines(self):
        self.right(*lines_to(4095), "stop")
        for line in ("stop", "wait 1", "repeat 1", f"set {SET}"):
            self.wrong(4, 4096, *lines_to(4096), line)
        self.wrong(4, 4096, *lines_to(4096), "wait 1", "stop")
        self.wrong(2, 4096, *lines_to(4096))

    def test_lines_within_a_part(self):
        self.wrong(4, 4096, "show s", "part a", *["turn 1"] * 4094, "end", "stop")
        self.right("show s", "part a", *["turn 1"] * 4092, "end", "stop")


class TestKind5(Judged):
    def test_just_as_many_and_one_more(self):
        most = ["repeat 2147483648", "wait 2147483648", "end"]
        for ending in ("again", "stop"):
            self.right("show s", *most, ending)
            self.wrong(5, 5, "show s", *most, "wait 1", ending)
            self.wrong(5, 5, "show s", "wait 1", *most, ending)
            self.right("show s", "part a", *most, "end", "do a", ending)
            self.wrong(5, 8, "show s", "part a", *most, "end", "do a", "do a", ending)
            self.wrong(5, 9, "show s", "part a", *most, "wait 1", "end", "do a", "turn 1", ending)

    def test_a_part_that_is_not_used_may_last_longer(self):
        longer = ["repeat 4294967295", "repeat 4294967295", "wait 4294967295", "end", "end"]
        self.right("show s", "part a", *longer, "end", "stop")
        self.right("show s", "part a", *longer, "end", "part b", "do a", "do a", "end", "wait 1", "again")
        self.wrong(5, 9, "show s", "part a", *longer, "end", "do a", "stop")

    def test_no_matter_how_many_ticks(self):
        deep = ["repeat 4294967295"] * 8 + ["wait 4294967295"] + ["end"] * 8
        self.wrong(5, 18, "show s", *deep, "stop")
        self.wrong(5, 18, "show s", *deep, "again")


class TestKind6(Judged):
    def test_again_with_no_ticks(self):
        self.wrong(6, 1, "show s", "again")
        self.wrong(6, 2, "show s", f"flip {SET}", "again")
        self.wrong(6, 4, "show s", "part a", "wait 1", "end", "again")
        self.wrong(6, 4, "show s", "repeat 5", "turn 1", "end", "again")
        self.wrong(6, 4, "show s", "part a", "end", "do a", "again")

    def test_stop_with_no_ticks(self):
        self.right("show s", "stop")
        self.right("show s", "part a", "wait 1", "end", "stop")

    def test_again_with_one_tick(self):
        self.right("show s", "wait 1", "again")
        self.right("show s", "part a", "wait 1", "end", "do a", "again")


class TestFirstIsTold(Judged):
    def test_kind_1_ahead_of_all(self):
        self.wrong(1, 0, "stop 1")
        self.wrong(1, 2, "show s", "stop", "wait 0")
        self.wrong(1, 2, "show s", "part a", "part A")
        self.wrong(1, 1, "show s", "do abcdefghi", "stop")
        self.wrong(1, 4096, *lines_to(4096), "x")
        self.wrong_text(1, 4096, text(*lines_to(4096), "stop")[:-1])
        self.wrong_text(1, 1, text("show s", "again")[:-1])
        self.wrong_text(1, 0, text("stop")[:-1])
        self.wrong_text(1, 1, text("show s", "do a")[:-1])
        self.wrong(1, 9, "show s", *["repeat 2"] * 8, "repeat 0")

    def test_kind_2_ahead_of_3(self):
        self.wrong(2, 0, "do a", "stop")
        self.wrong(2, 2, "show s", "stop", "do a")
        self.wrong(2, 4, "show s", "part a", "end", "turn 1", "part a")
        self.wrong(2, 4, "show s", "part a", "end", "stop", "part a")

    def test_kind_2_ahead_of_4(self):
        self.wrong(2, 34, "show s", *parts(16), "turn 1", "part p16")
        self.wrong(2, 4096, *lines_to(4096), "end")
        self.wrong(2, 4096, *lines_to(4096), "part a")
        self.wrong(2, 4096, *lines_to(4096), "show s")
        self.wrong(2, 4096, *lines_to(4095), "stop", "stop")

    def test_kind_2_ahead_of_5_and_6(self):
        longer = ["repeat 4294967295", "wait 4294967295", "end"]
        self.wrong(2, 5, "show s", *longer, "repeat 1", "stop")
        self.wrong(2, 2, "show s", "repeat 1", "again")
        self.wrong(2, 2, "show s", "part a", "again")
        self.wrong(2, 2, "show s", "stop", "again")

    def test_kind_3_ahead_of_4(self):
        self.wrong(3, 33, "show s", *parts(16), "part p3")
        self.wrong(3, 4096, *lines_to(4096), "do a")

    def test_kind_4_ahead_of_5_and_6(self):
        longer = ["repeat 4294967295", "wait 4294967295", "end"]
        self.wrong(4, 4096, *lines_to(4093), *longer, "stop")
        self.wrong(4, 4096, *lines_to(4096), "again")

    def test_the_first_faulty_line(self):
        self.wrong(2, 1, "show s", "end", "x", "do a")
        self.wrong(3, 1, "show s", "do a", "x", "end")
        self.wrong(6, 1, "show s", "again", "x")
        self.wrong(3, 2, "show s", "turn 1", "do a", "wait 0", "show s")
        self.wrong_text(3, 1, text("show s", "do a", "stop")[:-1])
        self.wrong_text(2, 0, text("stop") + [120])
        self.wrong(4, 9, "show s", *["repeat 2"] * 9, "x")


class TestTooLong(Judged):
    def programme(self, turns, longer_turns):
        """A right programme of 65,493 bytes and those of the turns, 7 and 8 each."""
        return text("show s", *[f"clear {SET}"] * 2847, *["turn 0"] * turns, *["turn 10"] * longer_turns, "stop")

    def test_bytes(self):
        most, more = self.programme(5, 1), self.programme(4, 2)
        self.assertEqual([len(most), len(more)], [65536, 65537])
        self.assertEqual([judge(most), long(most)], [[0], [0, 0]])
        self.assertEqual([judge(more), long(more)], [[-2], [-2]])

    def test_ahead_of_faults(self):
        self.wrong_text(1, 0, [120] * 65536)
        for count in (65537, 66000):
            self.assertEqual(judge([120] * count), [-2])
            self.assertEqual(long([120] * count), [-2])
            self.assertEqual(judge([10] * count), [-2])


if __name__ == "__main__":
    unittest.main()
