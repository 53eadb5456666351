"""How long what shines at a tick goes on shining."""

from lampturns.changes import no_change
from lampturns.places import place_of

LAST_TICK = 18446744073709551615


class Watch:
    """Steps, of which the first tick shows the watched set, and the first tick of them that shows another."""

    def __init__(self, watched):
        self.watched = watched
        # What the steps ahead of the first tick do.
        self.lead = no_change()
        # The first tick that shows another set, counted from the steps' first; None if there's none.
        self.other = None
        # As long as there's none: how many ticks the steps last, and what shines behind them.
        self.ticks = 0
        self.last = watched

    def take(self, step, inner):
        """Take one more step; inner is the watch of its block, or a new one if it has none."""
        if self.other is not None:
            return
        if step.ticks > 0:
            self.take_ticks(step, inner)
        elif self.ticks > 0:
            self.last = step.change.done_to(self.last)
        else:
            self.lead = self.lead.then(step.change)

    def take_ticks(self, step, inner):
        if self.ticks == 0:
            self.lead = self.lead.then(inner.lead)
        elif inner.lead.done_to(self.last) != self.watched:
            self.other = self.ticks
            return
        within = inner.other_in_rounds(step.times)
        if within is not None:
            self.other = self.ticks + within
        self.ticks += step.ticks
        self.last = inner.last

    def other_in_rounds(self, times):
        """As other, if the steps are done that many times."""
        if self.other is None and times > 1 and self.lead.done_to(self.last) != self.watched:
            return self.ticks
        # If the second round's first tick shows the set too, then all that follows is as in the first round.
        return self.other


def watched_blocks(programme, watched):
    """A watch of each block that the programme goes through, by its number."""
    watches = {}
    for block in programme.used_blocks():
        watches[block.number] = watch_steps(block.steps, watched, watches)
    return watches


def watch_steps(steps, watched, watches):
    watch = Watch(watched)
    for step in steps:
        watch.take(step, Watch(watched) if step.block is None else watches[step.block.number])
    return watch


def next_other(programme, shining, tick):
    """The first tick above this one that shows another set, or None if none below 2^64 does."""
    place = place_of(programme.whole, tick)
    watched = place.shining(shining)
    watch = watch_steps(place.coming, watched, watched_blocks(programme, watched))
    if watch.other is None or tick + watch.other > LAST_TICK:
        return None
    return tick + watch.other
