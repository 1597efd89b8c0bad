"""The few integers and ends that have to be tried to know of all rows.

Only the order of ends and marks counts, and whatever can follow behind a greater end of a gap, or if only greater
ends can come in, can also follow behind a lesser one: so the least of each kind stands for all of them.
"""

from endclimbs.casing import case_index, many_at_most
from endclimbs.climbing import waits
from endclimbs.kinds import CASES


def least_firsts(marks, many):
    """The least integer of each gap; in the lowest gap, where there is none, one with room for so many takes."""
    return (marks[0] - many - 2,) + marks if marks else (0,)


def least_ahead(state):
    """The least end that is a round behind a state with an integer as its end."""
    return state[2] if waits(state) else state[1] + 1


def picked_ends(marks, least):
    """The least end of each kind that can come in if none can that is less than this one."""
    if least is None:
        return [None]
    picked = [least]
    for mark in marks:
        for y in (mark, mark + 1):
            if y > picked[-1]:
                picked.append(y)
    return picked + [None]


def floor_index(marks, state):
    """The place in CASES of the floor of a state with an integer as its end."""
    return case_index(marks, state[1], state[2]) if waits(state) else 0


def spot_of(marks, state):
    """The spot of a state with an integer as its end."""
    return state[0], many_at_most(marks, state[1]), CASES[floor_index(marks, state)]
