"""Changes: what steps together do to a set, told as one turn, one set kept and one set flipped."""

LAMPS = 64
ALL_LAMPS = 18446744073709551615


class Change:
    """The set is turned by some places (0 to 63), then only some lamps are kept, then some are flipped."""

    def __init__(self, turn, keep, flip):
        self.turn = turn
        self.keep = keep
        self.flip = flip

    def done_to(self, shining):
        """What becomes of a set."""
        return turned(shining, self.turn) & self.keep ^ self.flip

    def then(self, other):
        """This change and then another, as one."""
        turn = (self.turn + other.turn) % LAMPS
        keep = turned(self.keep, other.turn) & other.keep
        return Change(turn, keep, other.done_to(self.flip))


def turned(shining, places):
    return (shining << places | shining >> LAMPS - places) & ALL_LAMPS


def no_change():
    return Change(0, ALL_LAMPS, 0)


def change_of(word, value):
    """What a step's line does: set, clear, flip or turn."""
    if word == "turn":
        return Change(value, ALL_LAMPS, 0)
    if word == "flip":
        return Change(0, ALL_LAMPS, value)
    if word == "clear":
        return Change(0, ALL_LAMPS ^ value, 0)
    return Change(0, ALL_LAMPS ^ value, value)


def done_times(change, times):
    """The change done that many times, as one."""
    total = no_change()
    # Each doubling doubles the turn, so none is left after six at the most.
    while times > 0 and change.turn != 0:
        if times % 2 == 1:
            total = total.then(change)
        change = change.then(change)
        times = times // 2
    if times == 0:
        return total
    # Without a turn each lamp goes its own way: one that's kept is as it was after every second flip.
    flip = change.flip if times % 2 == 1 else change.flip & (ALL_LAMPS ^ change.keep)
    return total.then(Change(0, change.keep, flip))
