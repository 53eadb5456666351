"""What the tests share: texts made of lines, and a second, slower judge to hold the program against."""

import re

MOST_TICKS = 2 ** 62
HIGHEST = 2 ** 32 - 1

FORMS = [re.compile(form) for form in (
    rb"(show|part|do) ([a-z0-9]{1,8})",
    rb"(set|clear|flip) ([0-9a-f]{16})",
    rb"(turn) ([1-5]?[0-9]|6[0-3])",
    rb"(wait|repeat) ([1-9][0-9]{0,9})",
    rb"(end|again|stop)()",
)]


def text(*lines):
    """The lines, each with its byte 10, as a list of bytes."""
    return list("".join([line + "\n" for line in lines]).encode("latin-1"))


def read(line):
    """A line's two words as bytes, or None."""
    for form in FORMS:
        found = form.fullmatch(line)
        if found and not (found[1] in (b"wait", b"repeat") and int(found[2]) > HIGHEST):
            return found[1], found[2]
    return None


def inner(above):
    """What's not ended behind these lines: a list of their places."""
    places = []
    for place, (word, value) in enumerate(above):
        if word in (b"part", b"repeat"):
            places.append(place)
        elif word == b"end":
            places.pop()
    return places


def end_of(lines, begin):
    """The place of the `end` that belongs to the line at begin."""
    for place in range(begin + 1, len(lines)):
        if lines[place][0] == b"end" and inner(lines[:place]) == inner(lines[:begin]) + [begin]:
            return place
    raise AssertionError("no end")


def ticks_of(lines, begin, end):
    """How many ticks the lines from begin on, before end, last: parts are looked up in the lines."""
    ticks, place = 0, begin
    while place < end:
        word, value = lines[place]
        if word == b"wait":
            ticks += int(value)
        elif word == b"do":
            part = lines.index((b"part", value))
            ticks += ticks_of(lines, part + 1, end_of(lines, part))
        elif word in (b"repeat", b"part"):
            behind = end_of(lines, place)
            if word == b"repeat":
                ticks += int(value) * ticks_of(lines, place + 1, behind)
            place = behind
        place += 1
    return ticks


def ended_parts(lines):
    places = inner(lines)
    return [value for place, (word, value) in enumerate(lines) if word == b"part" and place not in places]


def kinds_of(above, line):
    """All the kinds of fault that a line has behind those above; none of them has one."""
    if line is None:
        return [1]
    word, value = line
    places = inner(above)
    outside = [w for k, (w, v) in enumerate(above) if k > 0 and w not in (b"part", b"end")
               and all(above[p][0] != b"part" for p in inner(above[:k]))]
    kinds = []
    if (len(above) == 0) != (word == b"show"):
        kinds.append(2)
    if word == b"part" and (places or outside) or word == b"end" and not places:
        kinds.append(2)
    if word in (b"again", b"stop") and places or above and above[-1][0] in (b"again", b"stop"):
        kinds.append(2)
    if word == b"do" and value not in ended_parts(above) or word == b"part" and value in ended_parts(above):
        kinds.append(3)
    if word == b"part" and [w for w, v in above].count(b"part") >= 16 or len(above) >= 4096:
        kinds.append(4)
    if word == b"repeat" and [above[p][0] for p in places].count(b"repeat") >= 8:
        kinds.append(4)
    if not kinds and word in (b"again", b"stop"):
        ticks = ticks_of(above, 0, len(above))
        if ticks > MOST_TICKS:
            kinds.append(5)
        if word == b"again" and ticks == 0:
            kinds.append(6)
    return kinds


def slow_judge(t):
    """What judge must answer, and what long must answer, by looking at all lines above anew for each line."""
    pieces = bytes(t).split(b"\n")
    rest = pieces.pop()
    above = []
    for number, piece in enumerate(pieces):
        line = read(piece)
        kinds = kinds_of(above, line)
        if kinds:
            return [-6, min(kinds), number], [-6]
        above.append(line)
    if rest or not pieces:
        return [-6, 1, len(pieces)], [-6]
    if above[-1][0] not in (b"again", b"stop"):
        return [-6, 2, len(pieces)], [-6]
    return [0], [int(above[-1][0] == b"again"), ticks_of(above, 0, len(above))]


def plain_steps(lines):
    """The steps of a right programme one behind another: parts and repeats are spelled out, `end` isn't there."""
    parts, place, stack = {}, 1, [["own", []]]
    while lines[place] not in ("again", "stop"):
        word, value = (lines[place] + " ").split(" ")[:2]
        if word in ("part", "repeat"):
            stack.append([word, value, []])
        elif word == "do":
            stack[-1][-1].extend(parts[value])
        elif word == "end":
            word, value, steps = stack.pop()
            if word == "part":
                parts[value] = steps
            else:
                for k in range(int(value)):
                    stack[-1][-1].extend(steps)
        else:
            stack[-1][-1].append((word, value))
        place += 1
    return stack[0][1]


def lamps_of(number):
    return [number // 2 ** lamp % 2 == 1 for lamp in range(64)]


def number_of(lamps):
    return sum([2 ** lamp for lamp in range(64) if lamps[lamp]])


def step_done(lamps, word, value):
    """What shines behind a set, clear, flip or turn, lamp by lamp."""
    if word == "turn":
        return [lamps[lamp - int(value)] if lamp >= int(value) else lamps[lamp - int(value) + 64]
                for lamp in range(64)]
    named = lamps_of(int(value, 16))
    told = {"set": lambda was: True, "clear": lambda was: False, "flip": lambda was: not was}[word]
    return [told(was) if is_named else was for was, is_named in zip(lamps, named)]


def run_once(lines, x):
    """Run the steps one behind another: what shines at each of their ticks, and what shines behind them."""
    lamps, shown = lamps_of(x), []
    for word, value in plain_steps(lines):
        if word == "wait":
            for tick in range(int(value)):
                shown.append(number_of(lamps))
        else:
            lamps = step_done(lamps, word, value)
    return shown, number_of(lamps)


def run(lines, x, ticks):
    """What shines at each of the first ticks, by running the programme: round behind round, or behind its end."""
    shown = []
    while len(shown) < ticks:
        more, x = run_once(lines, x)
        shown += more
        if lines[-1] == "stop":
            shown += [x] * ticks
    return shown[:ticks]


def sets(source):
    """A set of lamps, as a number: none, all, single ones, few, many."""
    return source.choice([0, 2 ** 64 - 1, 1, 2 ** 63, 2 ** source.randrange(64), source.randrange(2 ** 64),
                          source.randrange(2 ** 64) & source.randrange(2 ** 64) & source.randrange(2 ** 64)])


def some_steps(source, parts, depth=0, rounds=3, waits=4):
    """The lines of a few steps, repeats in repeats among them, and of those parts."""
    lines = []
    for k in range(source.randrange(5)):
        choice = source.randrange(9)
        if choice == 0 and parts:
            lines.append("do " + source.choice(parts))
        elif choice <= 2 and depth < 3:
            lines += [f"repeat {source.randrange(1, rounds + 1)}"]
            lines += some_steps(source, parts, depth + 1, rounds, waits) + ["end"]
        elif choice <= 5:
            lines.append(f"{source.choice(['set', 'clear', 'flip', 'flip'])} {sets(source):016x}")
        elif choice == 6:
            lines.append(f"turn {source.choice([0, 1, 2, 8, 32, 63, source.randrange(64)])}")
        else:
            lines.append(f"wait {source.randrange(1, waits + 1)}")
    return lines


def some_programme(source, ending=None, rounds=3, waits=4):
    """The lines of a right programme, of parts that use parts; with the ending, if it may stand there."""
    lines, parts = ["show s"], []
    for part in range(source.randrange(4)):
        lines += [f"part p{part}"] + some_steps(source, parts, 0, rounds, waits) + ["end"]
        parts.append(f"p{part}")
    lines += some_steps(source, parts, 0, rounds, waits)
    ending = ending or source.choice(["again", "again", "stop"])
    if ending == "again" and not ticks_of([read(line.encode()) for line in lines], 0, len(lines)):
        lines.append("wait 1")
    return lines + [ending]


def far_programme(source):
    """The lines of a right programme of repeats and waits that are often very long."""
    while True:
        rounds, waits = (2 ** source.choice([1, 3, 8, 16, 32]) - 1 for k in range(2))
        lines = some_programme(source, None, rounds, waits)
        if ticks_of([read(line.encode()) for line in lines], 0, len(lines)) <= MOST_TICKS:
            return lines
