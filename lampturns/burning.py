"""At how many ticks of a programme a lamp shines."""

from lampturns.changes import no_change
from lampturns.tallies import no_tally, rounds_tally, wait_tally
from lampturns.places import place_of


class Burning:
    """One lamp's tallies of all that a programme goes through."""

    def __init__(self, programme, lamp):
        self.lamp = lamp
        # The tallies of one round of each block, by its number.
        self.single = {}
        # Those of several rounds, by the block's number and how many they are.
        self.several = {}
        for block in programme.used_blocks():
            self.single[block.number] = self.block_tally(block)

    def block_tally(self, block):
        total = no_tally()
        done = no_change()
        for step in block.steps:
            if step.ticks > 0:
                total = total.plus(self.step_tally(step).behind(done))
            done = done.then(step.change)
        return total

    def step_tally(self, step):
        if step.block is None:
            return wait_tally(step.ticks, self.lamp)
        rounds = (step.block.number, step.times)
        if rounds not in self.several:
            tally = self.single[step.block.number]
            self.several[rounds] = rounds_tally(tally, step.block.change, step.times)
        return self.several[rounds]

    def told(self, steps, shining):
        """At how many ticks of the steps the lamp shines, if this set shines ahead of them."""
        ticks = 0
        for step in steps:
            if step.ticks > 0:
                ticks += self.step_tally(step).told(shining)
            shining = step.change.done_to(shining)
        return ticks


def burnt_ticks(programme, shining, begin, end, lamp):
    """At how many ticks from begin on, before end, the lamp shines, if this set shines at first."""
    burning = Burning(programme, lamp)
    until_end = burning.told(place_of(programme.whole, end).passed, shining)
    return until_end - burning.told(place_of(programme.whole, begin).passed, shining)
