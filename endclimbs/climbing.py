"""How the end of a rule climbs on a row, and where it comes to rest."""

from endclimbs.casing import case_index
from endclimbs.errors import NotRising, Restless, require
from endclimbs.kinds import CASES, begins_as_row, first_fall, is_end, is_index, is_less, is_tuple_of


def lets_row(row):
    """Raise the errors of a row unless any value is one."""
    require(begins_as_row(row), "row")
    fall = first_fall(row)
    if fall is not None:
        raise NotRising(fall)


def is_state(rule, thing):
    """Whether any value is by form a state of the rule."""
    if not is_tuple_of(thing, 3):
        return False
    phase, end, last = thing
    return is_index(phase, len(rule[1])) and is_end(end) and is_end(last) and not is_less(last, end)


def waits(state):
    """Whether the end of a state waits."""
    return is_less(state[1], state[2])


def mark_at_least(marks, y):
    """The least mark that is at least the end y, endless if there is none."""
    for mark in marks:
        if not is_less(mark, y):
            return mark
    return None


def end_by_move(marks, move, end, y):
    """What an end becomes by a move when y comes in at it."""
    if move == "take":
        return y
    if move == "next":
        return mark_at_least(marks, y)
    return end if move == "wait" else None


def pair_at(rule, state, y):
    """The index of the case and the pair by which y, greater than the end of the state, comes in."""
    case = case_index(rule[0], state[1], y)
    return case, rule[1][state[0]][case]


def state_behind(rule, state, y):
    """The state behind y."""
    end = state[1]
    if not is_less(end, y):
        return state
    _, (move, later) = pair_at(rule, state, y)
    reached = end_by_move(rule[0], move, end, y)
    return later, reached, (y if is_less(reached, y) else reached)


def moved(rule, state, y):
    """The state behind the end y, if state was that ahead of it."""
    require(is_state(rule, state), "state")
    require(is_end(y) and not (waits(state) and is_less(y, state[2])), "y")
    return state_behind(rule, state, y)


def states_of_row(rule, row):
    """The tuple of the states behind each element of a row."""
    lets_row(row)
    states = [(0, row[0], row[0])]
    for k in range(1, len(row)):
        states.append(state_behind(rule, states[-1], row[k]))
    return tuple(states)


def ends_of(rule, row):
    """A generator of the ends behind each element of a row."""
    states = states_of_row(rule, row)
    for state in states:
        yield state[1]


def state_of(rule, row):
    """The state behind a row."""
    return states_of_row(rule, row)[-1]


def rounds_of(rule, row):
    """For each round on a row the triple of the index of the element, the case and the move."""
    states = states_of_row(rule, row)
    rounds = []
    for k in range(1, len(row)):
        if is_less(states[k - 1][1], row[k]):
            case, pair = pair_at(rule, states[k - 1], row[k])
            rounds.append((k, CASES[case], pair[0]))
    return tuple(rounds)


def settling(rule, state):
    """The states from this one on, while what waits comes in again and again, until the end waits no more.

    The last one of them still waits if it does for ever.
    """
    states = [state]
    # The case stays while the end waits, so waits of as many rounds as phases repeat a phase.
    while waits(states[-1]) and len(states) <= len(rule[1]):
        states.append(state_behind(rule, states[-1], states[-1][2]))
    return states


def settled_end(rule, row):
    """The end at which the rule comes to rest if the last element of a row comes in again and again."""
    state = settling(rule, state_of(rule, row))[-1]
    if waits(state):
        raise Restless(len(rule[1]))
    return state[1]
