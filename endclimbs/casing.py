"""Where an integer stands among marks, and as which case an end comes in at it."""

from endclimbs.errors import require
from endclimbs.kinds import CASES, is_end, is_integer, is_less, is_marks


def many_at_most(marks, x):
    """How many marks are at most x."""
    return len([mark for mark in marks if mark <= x])


def mark_above(marks, x):
    """The least mark that is greater than x, None if there is none."""
    for mark in marks:
        if mark > x:
            return mark
    return None


def case_index(marks, x, y):
    """The place in CASES of the case of an end y that is greater than the integer x."""
    upper = mark_above(marks, x)
    if upper is None:
        return 2 if y is None else 0
    if y == upper:
        return 1
    return 0 if is_less(y, upper) else 2


def gap_of(marks, x):
    """How many marks are at most the integer x."""
    require(is_marks(marks), "marks")
    require(is_integer(x), "x")
    return many_at_most(marks, x)


def upper_mark(marks, x):
    """The least mark that is greater than the integer x, None in the outer gap."""
    require(is_marks(marks), "marks")
    require(is_integer(x), "x")
    return mark_above(marks, x)


def room_of(marks, x):
    """How many integers lie strictly between the integer x and its upper mark, None in the outer gap."""
    upper = upper_mark(marks, x)
    return None if upper is None else upper - x - 1


def case_of(marks, x, y):
    """The case if the end y comes in at the integer x, None if nothing happens then."""
    require(is_marks(marks), "marks")
    require(is_integer(x), "x")
    require(is_end(y), "y")
    return CASES[case_index(marks, x, y)] if is_less(x, y) else None
