"""Whether two rules have the same ends on all rows, and a shortest row on which they have not."""

from endclimbs.casing import many_at_most
from endclimbs.climbing import state_behind
from endclimbs.kinds import is_less
from endclimbs.picking import least_ahead, least_firsts, picked_ends
from endclimbs.rulechanges import marks_with


def marks_of_both(marks, others):
    """All marks of two rules, ascending."""
    both = marks
    for mark in others:
        if mark not in both:
            both = marks_with(both, mark)
    return both


def is_new(best, marks, state, twin):
    """Whether rows can part behind two states with equal ends that do not behind those kept in best; keeps them then.

    As long as the ends are equal, both wait or none. Between the same marks of both rules the cases hang on what comes
    in alone; so what can follow hangs on the phases, and on the least end that is a round.
    """
    key = (state[0], twin[0], many_at_most(marks, state[1]))
    least = least_ahead(state)
    if key in best and not is_less(least, best[key]):
        return False
    best[key] = least
    return True


def parting_row(rule, other):
    """A shortest row behind which the ends of two rules are unlike, None if they are alike."""
    marks = marks_of_both(rule[0], other[0])
    # In the lowest gap no pair of phases has to come up twice.
    firsts = least_firsts(marks, len(rule[1]) * len(other[1]))
    queue = [((0, first, first), (0, first, first), (first,)) for first in firsts]
    best = {}
    k = 0
    while k < len(queue):
        state, twin, row = queue[k]
        k += 1
        if is_new(best, marks, state, twin):
            for y in picked_ends(marks, least_ahead(state)):
                behind = state_behind(rule, state, y)
                twin_behind = state_behind(other, twin, y)
                if behind[1] != twin_behind[1]:
                    return row + (y,)
                if behind[1] is not None:
                    queue.append((behind, twin_behind, row + (y,)))
    return None


def are_alike(rule, other):
    """Whether two rules have the same ends on all rows, behind each element."""
    return parting_row(rule, other) is None
