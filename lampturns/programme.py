"""A text judged line by line, and the programme that it tells."""

from lampturns.blocks import Block, change_step, rounds_step, wait_step
from lampturns.lines import read_line, split_lines
from lampturns.refusals import NoProgramme, TooLong

MOST_BYTES = 65536
MOST_LINES = 4096
MOST_PARTS = 16
MOST_REPEATS = 8
MOST_TICKS = 4611686018427387904
# As many rounds, or ticks, as may be asked for: no tick is numbered so high.
FOR_EVER = 18446744073709551616

ENDINGS = ("again", "stop")

NO_FAULT = 0
NO_SUCH_LINE = 1
MISPLACED = 2
MISNAMED = 3
TOO_MANY = 4
LASTS_TOO_LONG = 5
LASTS_NOT = 6


class Programme:
    """What the lines taken so far tell; all of them are as they must be."""

    def __init__(self):
        # The ended parts' blocks, by their names.
        self.parts = {}
        # The name of the part that's not ended yet, or None.
        self.part = None
        # The numbers of the repeats that aren't ended yet, the innermost last.
        self.repeats = []
        # The block of the programme's own steps.
        self.own = Block()
        # That block, then those that aren't ended yet, the innermost last.
        self.within = [self.own]
        # All blocks that are ended, by their numbers.
        self.ended = []
        self.has_own_steps = False
        self.ending = None
        # The programme's own steps with what comes behind their end, in a block that lasts for ever.
        self.whole = None

    def is_within(self):
        """Whether a part or a repeat isn't ended yet."""
        return len(self.within) > 1

    def take(self, line):
        """Take a line that may stand here."""
        if line.word == "part":
            self.part = line.value
            self.within.append(Block())
        elif line.word == "end":
            self.take_end()
        elif line.word in ENDINGS:
            self.take_ending(line.word)
        elif line.word != "show":
            self.take_step(line)

    def take_step(self, line):
        if self.part is None:
            self.has_own_steps = True
        if line.word == "repeat":
            self.repeats.append(line.value)
            self.within.append(Block())
        elif line.word == "do":
            self.within[-1].take(rounds_step(self.parts[line.value], 1))
        elif line.word == "wait":
            self.within[-1].take(wait_step(line.value))
        else:
            self.within[-1].take(change_step(line.word, line.value))

    def take_end(self):
        block = self.end_block(self.within.pop())
        if len(self.repeats) > 0:
            self.within[-1].take(rounds_step(block, self.repeats.pop()))
        else:
            self.parts[self.part] = block
            self.part = None

    def take_ending(self, word):
        self.ending = word
        self.end_block(self.own)
        self.whole = Block()
        if word == "again":
            self.whole.take(rounds_step(self.own, FOR_EVER))
        else:
            self.whole.take(rounds_step(self.own, 1))
            self.whole.take(wait_step(FOR_EVER))
        self.end_block(self.whole)

    def end_block(self, block):
        block.number = len(self.ended)
        self.ended.append(block)
        return block

    def used_blocks(self):
        """The whole and all blocks that it goes through, by their numbers."""
        used = {self.whole.number: True}
        for block in reversed(self.ended):
            if block.number in used:
                for step in block.steps:
                    if step.block is not None:
                        used[step.block.number] = True
        return [block for block in self.ended if block.number in used]


def read_programme(t):
    """The programme that the text tells; TooLong or NoProgramme is raised if it tells none."""
    if len(t) > MOST_BYTES:
        raise TooLong()
    lines = split_lines(t)
    rest = lines.pop()
    programme = Programme()
    for number, signs in enumerate(lines):
        line = read_line(signs)
        kind = fault_kind(programme, number, line)
        if kind != NO_FAULT:
            raise NoProgramme(kind, number)
        programme.take(line)
    # A text of no bytes counts as a line 0 whose byte 10 is missing.
    if rest != "" or len(lines) == 0:
        raise NoProgramme(NO_SUCH_LINE, len(lines))
    if programme.ending is None:
        raise NoProgramme(MISPLACED, len(lines))
    return programme


def fault_kind(programme, number, line):
    """The first kind of fault that the line has behind those that the programme has taken."""
    if line is None:
        return NO_SUCH_LINE
    if is_misplaced(programme, number, line.word):
        return MISPLACED
    if is_misnamed(programme, line):
        return MISNAMED
    if is_too_many(programme, number, line.word):
        return TOO_MANY
    if line.word in ENDINGS and programme.own.ticks > MOST_TICKS:
        return LASTS_TOO_LONG
    if line.word == "again" and programme.own.ticks == 0:
        return LASTS_NOT
    return NO_FAULT


def is_misplaced(programme, number, word):
    if number == 0 or word == "show":
        return number != 0 or word != "show"
    if programme.ending is not None:
        return True
    if word == "part":
        return programme.is_within() or programme.has_own_steps
    if word == "end":
        return not programme.is_within()
    return word in ENDINGS and programme.is_within()


def is_misnamed(programme, line):
    if line.word == "do":
        return line.value not in programme.parts
    return line.word == "part" and line.value in programme.parts


def is_too_many(programme, number, word):
    if number >= MOST_LINES:
        return True
    if word == "part":
        return len(programme.parts) >= MOST_PARTS
    return word == "repeat" and len(programme.repeats) >= MOST_REPEATS
