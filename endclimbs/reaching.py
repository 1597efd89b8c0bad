"""Which spots the states behind rows have, with a row to each of them."""

from endclimbs.climbing import settling, state_behind, waits
from endclimbs.kinds import is_less
from endclimbs.picking import least_ahead, least_firsts, picked_ends, spot_of


def followers(rule, state, row):
    """The states with integers as their ends that are behind a state and one end more, with the rows to them."""
    found = []
    for y in picked_ends(rule[0], least_ahead(state)):
        behind = state_behind(rule, state, y)
        if behind[1] is not None:
            found.append((behind, row + (y,)))
    return found


def steady_followers(rule, state, row):
    """The same on steady rows of integers, behind each integer as soon as the end does not wait."""
    found = []
    for y in picked_ends(rule[0], least_ahead(state)):
        if y is not None:
            states = settling(rule, state_behind(rule, state, y))
            if not waits(states[-1]) and states[-1][1] is not None:
                found.append((states[-1], row + (y,) * len(states)))
    return found


def stands_for(state, other):
    """Whether what can follow behind another state of the same spot is known from this one."""
    if state[1] == other[1]:
        return not is_less(other[2], state[2])
    return state[1] < other[1]


def reached(rule, firsts, steady):
    """For each spot behind rows with these first elements a pair: a state there with the least end, and a row to it.

    If steady is True, the rows are steady ones of integers, and the states those whose end does not wait.
    """
    best = {}
    queue = [((0, first, first), (first,)) for first in firsts]
    k = 0
    while k < len(queue):
        state, row = queue[k]
        k += 1
        spot = spot_of(rule[0], state)
        if spot not in best or not stands_for(best[spot][0], state):
            best[spot] = (state, row)
            queue.extend(steady_followers(rule, state, row) if steady else followers(rule, state, row))
    return best


def reached_from_all(rule, steady):
    """The same behind rows with any first elements; in the lowest gap any of its ends stands for all lesser ones."""
    # A row that gets somewhere without need for more passes each phase of the lowest gap at most once.
    return reached(rule, least_firsts(rule[0], len(rule[1])), steady)
