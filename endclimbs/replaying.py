"""Logs of live analyses, and live analyses that are led by them once more."""

from endclimbs.analyses import is_widening
from endclimbs.errors import InvalidPaper
from endclimbs.kinds import is_filled_tuple, is_tuple_of
from endclimbs.liveevents import is_event
from endclimbs.lives import Live
from endclimbs.programs import lets_names


def is_beginning(thing):
    """Whether any value is the first element of a log of which a Live can be made."""
    if not is_tuple_of(thing, 3) or thing[0] != "live":
        return False
    try:
        lets_names(thing[1])
    except InvalidPaper:
        return False
    return is_widening(thing[1], thing[2])


def is_log(thing):
    """Whether any value is a log, whose events may be possible or not."""
    if not is_filled_tuple(thing) or not is_beginning(thing[0]):
        return False
    return all([is_event(event) for event in thing[1:]])


def replayed(log):
    """A new Live behind the events of a log, which count as no operations."""
    _, program, widening = log[0]
    live = Live(program, widening)
    live.lead(log[1:])
    return live
