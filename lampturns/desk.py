"""The calls, as the document tells them."""

from lampturns.programme import read_programme
from lampturns.refusals import NoProgramme, TooLong

DONE = 0
TEXT_TOO_LONG = -2
NO_PROGRAMME = -6


def judge(t):
    """[0] if the text is a programme's; else [-6, the fault's kind, its line], or [-2]."""
    try:
        read_programme(t)
    except TooLong:
        return [TEXT_TOO_LONG]
    except NoProgramme as fault:
        return [NO_PROGRAMME, fault.kind, fault.line]
    return [DONE]


def long(t):
    """[1 if the programme ends with again, 0 if with stop, the ticks that its steps last once], or [-2], or [-6]."""
    try:
        programme = read_programme(t)
    except TooLong:
        return [TEXT_TOO_LONG]
    except NoProgramme:
        return [NO_PROGRAMME]
    return [1 if programme.ending == "again" else 0, programme.ticks[0]]
