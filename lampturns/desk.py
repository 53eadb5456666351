"""The calls, as the document tells them."""

from lampturns.programme import read_programme
from lampturns.refusals import NoProgramme, TooLong
from lampturns.way import shining_at

DONE = 0
TEXT_TOO_LONG = -2
NO_PROGRAMME = -6


def judge(t):
    """[0] if the text is a programme's; else [-6, the fault's kind, its line], or [-2]."""
    try:
        read_programme(t)
    except TooLong:
        return [TEXT_TOO_LONG]
    except NoProgramme as fault:
        return [NO_PROGRAMME, fault.kind, fault.line]
    return [DONE]


def long(t):
    """[1 if the programme ends with again, 0 if with stop, the ticks that its steps last once], or a refusal."""
    return answer(t, lambda programme: [1 if programme.ending == "again" else 0, programme.own.ticks])


def once(x, t):
    """[0, what shines behind the steps, done once], or a refusal."""
    return answer(t, lambda programme: [DONE, programme.own.change.done_to(x)])


def at(x, tick, t):
    """[0, what shines at the tick], or a refusal."""
    return answer(t, lambda programme: [DONE, shining_at(programme, x, tick)])


def answer(t, tell):
    """What is told of the programme whose text this is, or the refusal alone."""
    try:
        return tell(read_programme(t))
    except TooLong:
        return [TEXT_TOO_LONG]
    except NoProgramme:
        return [NO_PROGRAMME]
