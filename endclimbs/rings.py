"""Rounds of one case that follow one another for ever."""

from endclimbs.casing import case_index, mark_above

WAITS = ("wait",)
CLIMBS = ("take", "wait")


def chain_of(phases, phase, case, moves):
    """The phases from this one on, by rounds of one case with these moves; the last one has another move.

    None if there is no last one.
    """
    chain = [phase]
    while phases[chain[-1]][case][0] in moves:
        # So many phases are not all different.
        if len(chain) > len(phases):
            return None
        chain.append(phases[chain[-1]][case][1])
    return chain


def waits_on(phases, phase, case):
    """Whether from a phase on waits of this case follow one another for ever."""
    return chain_of(phases, phase, case, WAITS) is None


def climbs_on(phases, phase):
    """Whether from a phase on near takes and waits follow one another for ever, in the outer gap."""
    return chain_of(phases, phase, 0, CLIMBS) is None


def goes_on(rule, state, y):
    """Whether rounds of the case as which y comes in can follow one another for ever from a state on."""
    marks, phases = rule
    case = case_index(marks, state[1], y)
    if waits_on(phases, state[0], case):
        return True
    return case == 0 and mark_above(marks, state[1]) is None and climbs_on(phases, state[0])
