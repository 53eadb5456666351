"""What holds for all calls: nothing is changed or kept, whole numbers come back, and soon."""

import inspect
import random
import time
import unittest

from lampturns.desk import at, burnt, judge, long, map_of, next_of, once
from tests.helper import slow_judge, text

SECONDS = 5

RIGHT = text("show s", "part a", "wait 2", "turn 1", "end", "repeat 3", "do a", "end", "again")
WRONG = text("show s", "part a", "wait 2", "turn 1", "end", "repeat 3", "do b", "end", "again")

# Each call as one of a text, and what it answers of RIGHT and of WRONG.
CALLS = (
    (judge, [0], [-6, 3, 6]),
    (long, [1, 6], [-6]),
    (lambda t: once(5, t), [0, 40], [-6]),
    (lambda t: at(5, 4, t), [0, 20], [-6]),
    (lambda t: at(5, 2 ** 64 - 1, t), [0, 5 * 2 ** 63 % (2 ** 64 - 1)], [-6]),
    (lambda t: burnt(5, 0, 5, 2, t), [0, 3], [-6]),
    (lambda t: burnt(5, 5, 0, 2, t), [-1], [-6]),
    (lambda t: burnt(5, 0, 5, 64, t), [-1], [-6]),
    (lambda t: next_of(5, 3, t), [0, 4], [-6]),
    (lambda t: next_of(0, 3, t), [-5], [-6]),
)


def deepest():
    """Sixteen parts of eight repeats each, the highest numbers, each using the one above in its inmost."""
    lines = ["show s"]
    for k in range(16):
        lines += [f"part p{k}"] + ["repeat 4294967295"] * 8 + ["wait 4294967295"]
        if k > 0:
            lines += [f"do p{k - 1}"] * 100
        lines += ["end"] * 8 + ["end"]
    return lines


class TestInterface(unittest.TestCase):
    def test_arguments_in_their_order(self):
        for call, names in ((judge, "t"), (long, "t"), (once, "x t"), (at, "x tick t"), (burnt, "x a b lamp t"),
                            (next_of, "x tick t"), (map_of, "x k a b n")):
            self.assertEqual(list(inspect.signature(call).parameters), names.split(" "))


class TestNothingKept(unittest.TestCase):
    def test_text_stays_as_it_was(self):
        for t in ([], RIGHT, WRONG, RIGHT[:-1], [0] * 65537):
            for call, right, wrong in CALLS:
                given = list(t)
                call(given)
                self.assertEqual(given, t)

    def test_a_second_call_answers_like_the_first(self):
        for time_called in range(2):
            for call, right, wrong in CALLS:
                self.assertEqual([call(RIGHT), call(WRONG), call([0] * 65537)], [right, wrong, [-2]])

    def test_calls_in_any_order(self):
        source = random.Random(7)
        for k in range(500):
            call, right, wrong = source.choice(CALLS)
            t, expected = source.choice([(RIGHT, right), (WRONG, wrong)])
            self.assertEqual(call(t), expected)

    def test_map_of_among_the_others(self):
        for call, right, wrong in CALLS:
            self.assertEqual([map_of(5, 1, 15, 16, 2), call(RIGHT)], [[0, 16 + 4], right])
            self.assertEqual([map_of(5, 65, 15, 16, 2), call(WRONG)], [[0, 16 + 4], wrong])
        first = map_of(5, 1, 15, 16, 2)
        first.append(99)
        self.assertEqual(map_of(5, 1, 15, 16, 2), [0, 16 + 4])

    def test_what_is_given_back_is_not_shared(self):
        for call, right, wrong in CALLS:
            for t in (RIGHT, WRONG, [0] * 65537):
                first = call(t)
                expected = list(first)
                first.append(99)
                self.assertEqual(call(t), expected)

    def test_whole_numbers_in_a_list(self):
        for call, right, wrong in CALLS:
            for t in (RIGHT, WRONG, text("show s", "stop"), [], [0] * 65537):
                answer = call(t)
                self.assertIs(type(answer), list)
                self.assertEqual({type(number) for number in answer}, {int})
        for n in (0, 1, 2 ** 64 - 1):
            self.assertEqual([type(number) for number in map_of(1, 1, 1, 1, n)], [int, int])


class TestSoon(unittest.TestCase):
    def soon(self, t, judged, lasting):
        begin = time.perf_counter()
        self.assertEqual(judge(t), judged)
        self.assertEqual(long(t), lasting)
        self.assertLess(time.perf_counter() - begin, SECONDS)

    def test_longest_texts(self):
        self.soon([10] * 65536, [-6, 1, 0], [-6])
        self.soon([32] * 65536, [-6, 1, 0], [-6])
        self.soon(text("show s", "wait 1") + [57] * 65000, [-6, 1, 2], [-6])
        self.soon(text("show s") + list(b"wait ") + [57] * 65000 + [10], [-6, 1, 1], [-6])
        self.soon(text("show s", *["turn 1"] * 9000), [-6, 4, 4096], [-6])
        self.soon([0] * 66000, [-2], [-2])

    def test_as_many_lines_as_may_be(self):
        self.soon(text("show s", *["wait 4294967295"] * 4094, "again"), [0], [1, 4094 * 4294967295])
        self.soon(text("show s", *["repeat 2", "end"] * 2047, "stop"), [0], [0, 0])

    def test_deepest_repeats(self):
        lines = deepest()
        self.soon(text(*lines, "stop"), [0], [0, 0])
        self.soon(text(*lines, "do p15", "stop"), [-6, 5, len(lines) + 1], [-6])
        eight = ["repeat 4294967295"] * 8 + ["turn 1"] + ["end"] * 8
        self.soon(text("show s", *eight, "wait 1", "again"), [0], [1, 1])


class TestSlowJudge(unittest.TestCase):
    """A text is a programme's or has one fault: held against a second judge, at texts that are nearly right."""

    def steps(self, source, names, depth):
        lines = []
        for k in range(source.randrange(5)):
            choice = source.randrange(8)
            if choice < 2:
                inner = self.steps(source, names, depth + 1) if depth < 3 else []
                deep = source.choice([1, 1, 1, 2, 5])
                lines += [source.choice(["repeat 2147483648", "repeat 3"])] * deep + inner + ["end"] * deep
            elif choice < 4 and names:
                lines.append("do " + source.choice(names))
            else:
                lines.append(source.choice(["flip 00000000000000ff", "turn 63", "wait 4294967295", "wait 1"]))
        return lines

    def lines(self, source):
        lines, names = ["show s"], []
        for k in range(source.choice([0, 1, 2, 3, 17])):
            steps = self.steps(source, names, 0) if k < 3 else []
            names.append(f"p{k}")
            lines += [f"part p{k}"] + steps + ["end"]
        lines += self.steps(source, names, 0) + [source.choice(["again", "stop"])]
        while source.random() < 0.3:
            place = source.randrange(len(lines))
            other = source.choice(["end", "show s", "part p0", "part x", "do p1", "repeat 2", "again", "stop",
                                   "wait 1"])
            lines[place:place + source.randrange(2)] = source.choice([[], [other]])
        return lines

    def mutated(self, source, t):
        if source.random() < 0.2 and t:
            place = source.randrange(len(t))
            t[place:place + source.randrange(3)] = source.choice([[], [10], [32], [48], [120], [source.randrange(256)]])
        return t

    def test_random_texts(self):
        source = random.Random(62)
        seen = {}
        for k in range(4000):
            t = self.mutated(source, text(*self.lines(source)))
            judged, lasting = slow_judge(t)
            self.assertEqual([judge(t), long(t)], [judged, lasting], bytes(t))
            seen[tuple(judged[:2])] = seen.get(tuple(judged[:2]), 0) + 1
        for found in ((0,), (-6, 1), (-6, 2), (-6, 3), (-6, 4), (-6, 5), (-6, 6)):
            self.assertGreater(seen.get(found, 0), 20, seen)


if __name__ == "__main__":
    unittest.main()
