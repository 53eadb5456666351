"""Tallies: at how many ticks a lamp shines while steps pass, told by what shines ahead of them."""

from lampturns.changes import LAMPS, no_change


class Tally:
    """Some ticks whatever shines ahead, and for each lamp that does some more, or fewer."""

    def __init__(self, always, by_lamp):
        self.always = always
        self.by_lamp = by_lamp

    def told(self, shining):
        """The ticks, if this set shines ahead."""
        return self.always + sum([more for lamp, more in enumerate(self.by_lamp) if shining >> lamp & 1 == 1])

    def plus(self, other):
        by_lamp = [mine + more for mine, more in zip(self.by_lamp, other.by_lamp)]
        return Tally(self.always + other.always, by_lamp)

    def behind(self, change):
        """The tally of the same steps, told by what shines ahead of a change that's done first."""
        always = self.always
        by_lamp = [0] * LAMPS
        for lamp, more in enumerate(self.by_lamp):
            flipped = change.flip >> lamp & 1 == 1
            if flipped:
                always += more
            if change.keep >> lamp & 1 == 1:
                by_lamp[(lamp - change.turn) % LAMPS] = -more if flipped else more
        return Tally(always, by_lamp)


def no_tally():
    return Tally(0, [0] * LAMPS)


def wait_tally(ticks, lamp):
    """The lamp's tally of a wait."""
    by_lamp = [0] * LAMPS
    by_lamp[lamp] = ticks
    return Tally(0, by_lamp)


def rounds_tally(tally, change, times):
    """The tally of so many rounds of steps, of which one has this tally and does this change."""
    total = no_tally()
    done = no_change()
    # Each doubling doubles the turn, so none is left after six at the most.
    while times > 0 and change.turn != 0:
        if times % 2 == 1:
            total = total.plus(tally.behind(done))
            done = done.then(change)
        tally = tally.plus(tally.behind(change))
        change = change.then(change)
        times = times // 2
    if times == 0:
        return total
    return total.plus(straight_rounds_tally(tally, change, times).behind(done))


def straight_rounds_tally(tally, change, times):
    """As rounds_tally, for one round or more of a change without a turn: each lamp goes its own way."""
    always = tally.always * times
    by_lamp = []
    for lamp, more in enumerate(tally.by_lamp):
        kept = change.keep >> lamp & 1 == 1
        flipped = change.flip >> lamp & 1 == 1
        if kept and flipped:
            # It shines ahead of every second round, and of the odd one left only if it does ahead of the first.
            always += more * (times // 2)
            by_lamp.append(more * (times % 2))
        elif kept:
            by_lamp.append(more * times)
        else:
            always += more * (times - 1) if flipped else 0
            by_lamp.append(more)
    return Tally(always, by_lamp)
