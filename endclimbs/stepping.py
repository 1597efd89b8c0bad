"""Rules played on step programs, and step programs made of rows and of rings."""

from endclimbs.casing import case_index, mark_above
from endclimbs.climbing import state_behind, states_of_row, waits
from endclimbs.errors import NotUsable, Restless, require
from endclimbs.kinds import is_end, is_less, is_number
from endclimbs.resting import steady_rings
from endclimbs.rings import climbs_on, waits_on


def step_at(pairs, x):
    """The d of the last pair whose c is None or at most the end x."""
    found = pairs[0][1]
    for c, d in pairs[1:]:
        if not is_less(x, c):
            found = d
    return found


def what_comes(program, x):
    """What comes in at the end x."""
    pairs, plus = program
    d = step_at(pairs, x)
    if plus == 0:
        return d
    if x is None:
        return None
    return d if d > x + plus else x + plus


def incoming(program, x):
    """What comes in at the end x on a step program."""
    require(is_end(x), "x")
    return what_comes(program, x)


def never_ends(rule, program, state, y):
    """Whether the rounds on a program never end from a state on, at which the integer y comes in as a round."""
    marks, phases = rule
    if waits_on(phases, state[0], case_index(marks, state[1], y)):
        return True
    # Without plus there is nothing to take above the greatest d.
    return program[1] > 0 and mark_above(marks, state[1]) is None and climbs_on(phases, state[0])


def playing(rule, program, most):
    """The row that is played on a program and the state behind it; Restless if there are more rounds than most."""
    require(is_number(most), "most")
    first = program[0][0][1]
    state = (0, first, first)
    row = [first]
    y = what_comes(program, first)
    while is_less(state[1], y):
        # Each element but the first one is a round, and this would be one more.
        if len(row) > most or never_ends(rule, program, state, y):
            raise Restless(most)
        row.append(y)
        state = state_behind(rule, state, y)
        y = what_comes(program, state[1])
    return tuple(row), state


def played(rule, program, *, most=200):
    """The row of the first d and, for each round on a step program, of what came in."""
    return playing(rule, program, most)[0]


def end_on(rule, program, *, most=200):
    """The end at which the playing of the rule on a step program is over."""
    return playing(rule, program, most)[1][1]


def pairs_by(states, row):
    """The pairs of a step program that lets the rounds of a row come in, states being those behind its elements."""
    pairs = [(None, row[0])]
    for k in range(1, len(row)):
        end = states[k - 1][1]
        # What waits stays the same, as the end does.
        if not waits(states[k - 1]) and is_less(end, row[k]):
            pairs.append((end, row[k]))
    return tuple(pairs)


def program_of(rule, row):
    """A step program with plus 0 on which the rule has just the rounds that it has on a steady row."""
    states = states_of_row(rule, row)
    for k in range(1, len(row)):
        if row[k] is None or (waits(states[k - 1]) and row[k] != row[k - 1]):
            raise NotUsable("row", k)
    if waits(states[-1]):
        raise NotUsable("row", len(row))
    return pairs_by(states, row), 0


def restless_program(rule):
    """None if the rule rests on steps, otherwise a step program on which its rounds never end."""
    rings = steady_rings(rule)
    if not rings:
        return None
    state, row, y = rings[0]
    pairs = pairs_by(states_of_row(rule, row), row)
    if waits_on(rule[1], state[0], case_index(rule[0], state[1], y)):
        return pairs + ((state[1], y),), 0
    # What comes in on the way is at least by 1 greater than the end there, so plus 1 changes none of it.
    return pairs, 1
