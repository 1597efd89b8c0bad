"""The checker of rules, which tells the first place at which a value is no rule."""

from endclimbs.errors import InvalidPaper
from endclimbs.kinds import first_bad_mark, is_case_pair, is_filled_tuple, is_tuple_of


def lets_marks(marks):
    """Raise InvalidPaper unless this is the tuple of marks of a rule."""
    if not isinstance(marks, tuple):
        raise InvalidPaper("marks", -1)
    bad = first_bad_mark(marks)
    if bad is not None:
        raise InvalidPaper("marks", bad)


def lets_phase(phase, index, many):
    """Raise InvalidPaper unless this is the phase with this index, in a rule of so many phases."""
    if not is_tuple_of(phase, 3):
        raise InvalidPaper("phase", index)
    for k, pair in enumerate(phase):
        if not is_case_pair(pair):
            raise InvalidPaper("case", (index, k))
        if pair[1] >= many:
            raise InvalidPaper("next", (index, k))


def lets_rule(thing):
    """How many phases a rule has; InvalidPaper for any value that is none."""
    if not is_tuple_of(thing, 2):
        raise InvalidPaper("shape", -1)
    marks, phases = thing
    lets_marks(marks)
    if not is_filled_tuple(phases):
        raise InvalidPaper("phases", -1)
    for index, phase in enumerate(phases):
        lets_phase(phase, index, len(phases))
    return len(phases)
