"""The lines of a text, each read by itself, wherever it stands."""

SET_DIGITS = "0123456789abcdef"
NAME_SIGNS = "abcdefghijklmnopqrstuvwxyz0123456789"
KNOWN_SIGNS = "abcdefghijklmnopqrstuvwxyz0123456789 \n"
OTHER_SIGN = "?"

WORDS_ALONE = ("end", "again", "stop")
WORDS_WITH_NAME = ("show", "part", "do")
WORDS_WITH_SET = ("set", "clear", "flip")
WORDS_WITH_COUNT = ("wait", "repeat")

LONGEST_NAME = 8
SET_LENGTH = 16
HIGHEST_TURN = 63
HIGHEST_COUNT = 4294967295
MOST_DIGITS = 10


class Line:
    """A line as it must be: its first word, and the name, set or number behind it (or None)."""

    def __init__(self, word, value):
        self.word = word
        self.value = value


def split_lines(t):
    """The lines without their bytes 10, and last what stands behind the last byte 10, perhaps nothing."""
    known = {}
    for sign in KNOWN_SIGNS:
        known[ord(sign)] = sign
    # No line may hold any other byte, so one sign that no line may hold stands for all of them.
    return "".join([known.get(byte, OTHER_SIGN) for byte in t]).split("\n")


def read_line(signs):
    """The Line that these signs tell, or None if they tell none."""
    words = signs.split(" ")
    if len(words) == 1 and signs in WORDS_ALONE:
        return Line(signs, None)
    if len(words) != 2:
        return None
    value = read_value(words[0], words[1])
    return None if value is None else Line(words[0], value)


def read_value(first, second):
    """What the second word tells behind the first, or None if it can't stand there."""
    if first in WORDS_WITH_NAME:
        return read_name(second)
    if first in WORDS_WITH_SET:
        return read_set(second)
    if first in WORDS_WITH_COUNT:
        return read_number(second, 1, HIGHEST_COUNT)
    if first == "turn":
        return read_number(second, 0, HIGHEST_TURN)
    return None


def read_name(word):
    if len(word) < 1 or len(word) > LONGEST_NAME:
        return None
    return word if made_of(word, NAME_SIGNS) else None


def read_set(word):
    if len(word) != SET_LENGTH or not made_of(word, SET_DIGITS):
        return None
    return int(word, 16)


def read_number(word, lowest, highest):
    # The length is asked first: Python's int refuses a number of very many digits.
    if len(word) > MOST_DIGITS or not word.isdigit():
        return None
    if word[0] == "0" and word != "0":
        return None
    number = int(word)
    return number if lowest <= number <= highest else None


def made_of(word, signs):
    return all([sign in signs for sign in word])
