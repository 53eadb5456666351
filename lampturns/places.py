"""A tick's place in a programme: the steps that pass ahead of it, and those that come from it on."""

from lampturns.blocks import rounds_step, wait_step


class Place:
    """The steps ahead of a tick, one behind another, and those from it on, of which the first is a wait."""

    def __init__(self, passed, coming):
        self.passed = passed
        self.coming = coming

    def shining(self, first):
        """What shines at the tick, if this set shines at first."""
        now = first
        for step in self.passed:
            now = step.change.done_to(now)
        return now


def place_of(block, tick):
    """The tick's place in a block that lasts longer than the tick's number; only what holds the tick is taken apart."""
    passed = []
    # What comes last stands first here, as the blocks are gone through from without.
    coming = []
    while block is not None:
        index = 0
        while tick >= block.steps[index].ticks:
            tick = tick - block.steps[index].ticks
            index = index + 1
        passed.extend(block.steps[:index])
        coming.extend(list(reversed(block.steps[index + 1:])))
        step = block.steps[index]
        block = step.block
        if block is None:
            passed.append(wait_step(tick))
            coming.append(wait_step(step.ticks - tick))
        else:
            rounds = tick // block.ticks
            tick = tick % block.ticks
            passed.append(rounds_step(block, rounds))
            coming.append(rounds_step(block, step.times - rounds - 1))
    return Place(passed, list(reversed(coming)))
