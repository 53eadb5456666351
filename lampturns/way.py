"""The way through a programme's blocks down to a tick, and what shines there."""

from lampturns.blocks import Block, rounds_step, wait_step
from lampturns.changes import done_times

# As many rounds, or ticks, as may be asked for: no tick is numbered so high.
FOR_EVER = 18446744073709551616


class Level:
    """A block on the way: how many rounds of it are done, and at which of its steps the way goes on."""

    def __init__(self, block, rounds, place):
        self.block = block
        self.rounds = rounds
        self.place = place


def whole_of(programme):
    """The programme and what's behind its end, as a block that lasts longer than any tick's number."""
    whole = Block()
    if programme.ending == "again":
        whole.take(rounds_step(programme.own, FOR_EVER))
    else:
        whole.take(rounds_step(programme.own, 1))
        whole.take(wait_step(FOR_EVER))
    return whole


def way_to(block, tick):
    """The levels from a block that lasts longer than the tick's number down to the wait at which the tick is."""
    levels = []
    rounds = 0
    while block is not None:
        place = 0
        while tick >= block.steps[place].ticks:
            tick = tick - block.steps[place].ticks
            place = place + 1
        levels.append(Level(block, rounds, place))
        block = block.steps[place].block
        if block is not None:
            rounds = tick // block.ticks
            tick = tick % block.ticks
    return levels


def shining_at(programme, shining, tick):
    """What shines at the tick, if this set shines at first."""
    for level in way_to(whole_of(programme), tick):
        shining = done_times(level.block.change, level.rounds).done_to(shining)
        for step in level.block.steps[:level.place]:
            shining = step.change.done_to(shining)
    return shining
