"""Steps and blocks of steps: what they do to a set, and how many ticks they last."""

from lampturns.changes import change_of, done_times, no_change

# More ticks than a programme may last in as many rounds as there are ticks; only parts that aren't used reach it.
COUNTLESS = 340282366920938463463374607431768211456


class Step:
    """A change, a wait, or rounds of a block: what all of it does, and how many ticks all of it lasts."""

    def __init__(self, change, ticks, block, times):
        self.change = change
        self.ticks = ticks
        # The block that's gone through, and how often; a change and a wait have None.
        self.block = block
        self.times = times


class Block:
    """Steps one behind another: a part's, a repeat's, or a programme's own."""

    def __init__(self):
        # Blocks are numbered when they end, so the ones that a block goes through have lower numbers.
        self.number = None
        self.steps = []
        self.change = no_change()
        self.ticks = 0

    def take(self, step):
        self.steps.append(step)
        self.change = self.change.then(step.change)
        self.ticks = min(self.ticks + step.ticks, COUNTLESS)


def change_step(word, value):
    return Step(change_of(word, value), 0, None, 1)


def wait_step(ticks):
    return Step(no_change(), ticks, None, 1)


def rounds_step(block, times):
    return Step(done_times(block.change, times), times * block.ticks, block, times)
