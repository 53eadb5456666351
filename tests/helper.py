"""What the tests share: texts made of lines, and a second, slower judge to hold the program against."""

import re

MOST_TICKS = 2 ** 62
HIGHEST = 2 ** 32 - 1

FORMS = [re.compile(form) for form in (
    rb"(show|part|do) ([a-z0-9]{1,8})",
    rb"(set|clear|flip) ([0-9a-f]{16})",
    rb"(turn) ([1-5]?[0-9]|6[0-3])",
    rb"(wait|repeat) ([1-9][0-9]{0,9})",
    rb"(end|again|stop)()",
)]


def text(*lines):
    """The lines, each with its byte 10, as a list of bytes."""
    return list("".join([line + "\n" for line in lines]).encode("latin-1"))


def read(line):
    """A line's two words as bytes, or None."""
    for form in FORMS:
        found = form.fullmatch(line)
        if found and not (found[1] in (b"wait", b"repeat") and int(found[2]) > HIGHEST):
            return found[1], found[2]
    return None


def inner(above):
    """What's not ended behind these lines: a list of their places."""
    places = []
    for place, (word, value) in enumerate(above):
        if word in (b"part", b"repeat"):
            places.append(place)
        elif word == b"end":
            places.pop()
    return places


def end_of(lines, begin):
    """The place of the `end` that belongs to the line at begin."""
    for place in range(begin + 1, len(lines)):
        if lines[place][0] == b"end" and inner(lines[:place]) == inner(lines[:begin]) + [begin]:
            return place
    raise AssertionError("no end")


def ticks_of(lines, begin, end):
    """How many ticks the lines from begin on, before end, last: parts are looked up in the lines."""
    ticks, place = 0, begin
    while place < end:
        word, value = lines[place]
        if word == b"wait":
            ticks += int(value)
        elif word == b"do":
            part = lines.index((b"part", value))
            ticks += ticks_of(lines, part + 1, end_of(lines, part))
        elif word in (b"repeat", b"part"):
            behind = end_of(lines, place)
            if word == b"repeat":
                ticks += int(value) * ticks_of(lines, place + 1, behind)
            place = behind
        place += 1
    return ticks


def ended_parts(lines):
    places = inner(lines)
    return [value for place, (word, value) in enumerate(lines) if word == b"part" and place not in places]


def kinds_of(above, line):
    """All the kinds of fault that a line has behind those above; none of them has one."""
    if line is None:
        return [1]
    word, value = line
    places = inner(above)
    outside = [w for k, (w, v) in enumerate(above) if k > 0 and w not in (b"part", b"end")
               and all(above[p][0] != b"part" for p in inner(above[:k]))]
    kinds = []
    if (len(above) == 0) != (word == b"show"):
        kinds.append(2)
    if word == b"part" and (places or outside) or word == b"end" and not places:
        kinds.append(2)
    if word in (b"again", b"stop") and places or above and above[-1][0] in (b"again", b"stop"):
        kinds.append(2)
    if word == b"do" and value not in ended_parts(above) or word == b"part" and value in ended_parts(above):
        kinds.append(3)
    if word == b"part" and [w for w, v in above].count(b"part") >= 16 or len(above) >= 4096:
        kinds.append(4)
    if word == b"repeat" and [above[p][0] for p in places].count(b"repeat") >= 8:
        kinds.append(4)
    if not kinds and word in (b"again", b"stop"):
        ticks = ticks_of(above, 0, len(above))
        if ticks > MOST_TICKS:
            kinds.append(5)
        if word == b"again" and ticks == 0:
            kinds.append(6)
    return kinds


def slow_judge(t):
    """What judge must answer, and what long must answer, by looking at all lines above anew for each line."""
    pieces = bytes(t).split(b"\n")
    rest = pieces.pop()
    above = []
    for number, piece in enumerate(pieces):
        line = read(piece)
        kinds = kinds_of(above, line)
        if kinds:
            return [-6, min(kinds), number], [-6]
        above.append(line)
    if rest or not pieces:
        return [-6, 1, len(pieces)], [-6]
    if above[-1][0] not in (b"again", b"stop"):
        return [-6, 2, len(pieces)], [-6]
    return [0], [int(above[-1][0] == b"again"), ticks_of(above, 0, len(above))]


def run_ticks(lines):
    """Run the steps of a right programme one behind another, and count the ticks as they pass."""
    parts, place = {}, 1
    words = [line.split(" ") for line in lines]
    ticks, calls = 0, []
    skipping = 0
    while True:
        word = words[place]
        if skipping:
            skipping += {"repeat": 1, "end": -1}.get(word[0], 0)
        elif word[0] == "part":
            parts[word[1]] = place
            skipping = 1
        elif word[0] in ("again", "stop"):
            return ticks
        elif word[0] == "wait":
            for tick in range(int(word[1])):
                ticks += 1
        elif word[0] == "do":
            calls.append(["part", place, 1])
            place = parts[word[1]]
        elif word[0] == "repeat":
            calls.append(["repeat", place, int(word[1])])
        elif word[0] == "end":
            calls[-1][2] -= 1
            if calls[-1][0] == "part":
                place = calls.pop()[1]
            elif calls[-1][2] > 0:
                place = calls[-1][1]
            else:
                calls.pop()
        place += 1
