"""The checker of papers of whether a rule is ever above another one. It follows a paper, and does not search."""

from endclimbs.climbing import is_state, state_of, waits
from endclimbs.errors import InvalidPaper
from endclimbs.joint import first_joint, incoming_jointly, is_above, moved_jointly
from endclimbs.kinds import is_integer, is_less, is_tuple_of


def lets_row_above(rule, other, span, row):
    """Raise InvalidPaper unless a tuple is a row in the span on which rule is above other."""
    first, top = span
    if len(row) == 0 or not is_integer(row[0]) or row[0] != first:
        raise InvalidPaper("first", -1)
    for k in range(1, len(row)):
        if not is_integer(row[k]) or row[k] < row[k - 1] or row[k] > top:
            raise InvalidPaper("element", k)
    if not is_above((state_of(rule, row), state_of(other, row))):
        raise InvalidPaper("end", -1)


def waits_behind(state, other_state):
    """Whether the end of a state waits for more than the last of the other state."""
    return waits(state) and is_less(other_state[2], state[2])


def is_joint(rule, other, thing):
    """Whether any value is by form a joint state of two rules."""
    if not is_tuple_of(thing, 2) or not is_state(rule, thing[0]) or not is_state(other, thing[1]):
        return False
    return not waits_behind(thing[0], thing[1]) and not waits_behind(thing[1], thing[0])


def lets_states(rule, other, span, states):
    """Raise InvalidPaper unless these hold all joint states in the span, and rule is above other at none of them."""
    for k, joint in enumerate(states):
        if not is_joint(rule, other, joint):
            raise InvalidPaper("state", k)
    there = {joint: True for joint in states}
    if first_joint(span) not in there:
        raise InvalidPaper("first", -1)
    for k, joint in enumerate(states):
        if is_above(joint):
            raise InvalidPaper("above", k)
        for y in incoming_jointly(joint, span):
            if moved_jointly(rule, other, joint, y) not in there:
                raise InvalidPaper("next", (k, y))


def lets_above(rule, other, span, thing):
    """False for a paper that rule is above other on a row in the span, True for one that it is on none.

    InvalidPaper for any other value.
    """
    if not is_tuple_of(thing, 2) or thing[0] not in ("above", "never") or not isinstance(thing[1], tuple):
        raise InvalidPaper("shape", -1)
    if thing[0] == "above":
        lets_row_above(rule, other, span, thing[1])
        return False
    lets_states(rule, other, span, thing[1])
    return True
