"""The calls, as the document tells them."""

from lampturns.burning import burnt_ticks
from lampturns.changes import LAMPS, Change, done_times
from lampturns.places import place_of
from lampturns.programme import read_programme
from lampturns.refusals import NoneThere, NoProgramme, OutOfBounds, TooLong
from lampturns.watch import next_other

DONE = 0
OUT_OF_BOUNDS = -1
TEXT_TOO_LONG = -2
NONE_THERE = -5
NO_PROGRAMME = -6


def judge(t):
    """[0] if the text is a programme's; else [-6, the fault's kind, its line], or [-2]."""
    try:
        read_programme(t)
    except TooLong:
        return [TEXT_TOO_LONG]
    except NoProgramme as fault:
        return [NO_PROGRAMME, fault.kind, fault.line]
    return [DONE]


def long(t):
    """[1 if the programme ends with again, 0 if with stop, the ticks that its steps last once], or a refusal."""
    return answer(t, lambda programme: [1 if programme.ending == "again" else 0, programme.own.ticks])


def once(x, t):
    """[0, what shines behind the steps, done once], or a refusal."""
    return answer(t, lambda programme: [DONE, programme.own.change.done_to(x)])


def at(x, tick, t):
    """[0, what shines at the tick], or a refusal."""
    return answer(t, lambda programme: [DONE, place_of(programme.whole, tick).shining(x)])


def burnt(x, a, b, lamp, t):
    """[0, at how many ticks from a on, before b, the lamp shines], or a refusal."""
    return answer(t, lambda programme: tell_burnt(programme, x, a, b, lamp))


def next_of(x, tick, t):
    """[0, the first tick above this one at which something else shines], or a refusal."""
    return answer(t, lambda programme: tell_next(programme, x, tick))


def map_of(x, k, a, b, n):
    """[0, what becomes of x, if n times it is turned by k, only the lamps of a are kept, and those of b flipped]."""
    return [DONE, done_times(Change(k % LAMPS, a, b), n).done_to(x)]


def tell_burnt(programme, x, a, b, lamp):
    if lamp >= LAMPS or a > b:
        raise OutOfBounds()
    return [DONE, burnt_ticks(programme, x, a, b, lamp)]


def tell_next(programme, x, tick):
    other = next_other(programme, x, tick)
    if other is None:
        raise NoneThere()
    return [DONE, other]


def answer(t, tell):
    """What is told of the programme whose text this is, or the refusal alone."""
    try:
        return tell(read_programme(t))
    except TooLong:
        return [TEXT_TOO_LONG]
    except NoProgramme:
        return [NO_PROGRAMME]
    except OutOfBounds:
        return [OUT_OF_BOUNDS]
    except NoneThere:
        return [NONE_THERE]
