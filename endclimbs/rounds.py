"""The greatest number of rounds of all rows, for marks of any size.

Numbers of rounds are as ends: None, for as many as one likes, is greater than every number.
"""

from endclimbs.casing import many_at_most, mark_above, room_of
from endclimbs.climbing import state_behind
from endclimbs.endvalues import sum_of_ends
from endclimbs.errors import require
from endclimbs.kinds import CASES, is_integer, is_less
from endclimbs.picking import floor_index, least_ahead, least_firsts, picked_ends
from endclimbs.rings import CLIMBS, WAITS, chain_of

LONGEST = 60


def greatest(numbers):
    """The greatest one of a nonempty list of numbers."""
    found = numbers[0]
    for number in numbers:
        if is_less(found, number):
            found = number
    return found


def far_rounds(rule, tables, gap, phase):
    """The most rounds from a gap and a phase on, if only far can come at first."""
    marks, phases = rule
    chain = chain_of(phases, phase, 2, WAITS)
    if chain is None:
        return None
    move, later = phases[chain[-1]][2]
    behind = [0]
    if move != "out":
        behind = behind + [tables[("mark", k, later)] for k in range(gap + 2, len(marks) + 1)]
    if move == "take" and ("past", gap + 1, later) in tables:
        behind.append(tables[("past", gap + 1, later)])
    return sum_of_ends(greatest(behind), len(chain))


def rounds_at_mark(tables, gap, move, later):
    """The most rounds behind one by which the end got from a gap to the mark above it, or out."""
    return 0 if move == "out" else tables[("mark", gap + 1, later)]


def at_rounds(rule, tables, gap, phase):
    """The most rounds from a gap and a phase on, if only at and far can come at first."""
    marks, phases = rule
    if gap == len(marks):
        return tables[("far", gap, phase)]
    chain = chain_of(phases, phase, 1, WAITS)
    if chain is None:
        return None
    numbers = [sum_of_ends(tables[("far", gap, here)], k) for k, here in enumerate(chain)]
    move, later = phases[chain[-1]][1]
    return greatest(numbers + [sum_of_ends(rounds_at_mark(tables, gap, move, later), len(chain))])


def outer_rounds(rule, tables, phase):
    """The most rounds from a phase on in the outer gap."""
    marks, phases = rule
    chain = chain_of(phases, phase, 0, CLIMBS)
    if chain is None:
        return None
    numbers = [sum_of_ends(tables[("far", len(marks), here)], k) for k, here in enumerate(chain)]
    return greatest(numbers + [len(chain)])


def ring_of_climbs(phases, phase):
    """How many rounds and how many takes a ring of near takes and waits through a phase has."""
    many = 0
    takes = 0
    here = phase
    while many == 0 or here != phase:
        move, here = phases[here][0]
        many += 1
        takes += 1 if move == "take" else 0
    return many, takes


def rings_left_out(takes, room):
    """How many rings with so many takes can be left out, so that more than one of them remains in the room."""
    rings = (room - 1) // takes - 1
    return rings if rings > 0 else 0


def near_rounds(rule, tables, gap, phase, room):
    """The most rounds from a phase on in a gap with an upper mark, if near can come first, with so much room."""
    phases = rule[1]
    best = tables[("at", gap, phase)]
    rounds = 0
    steps = 0
    while room > 0:
        move, later = phases[phase][0]
        if move not in CLIMBS:
            return greatest([best, sum_of_ends(rounds_at_mark(tables, gap, move, later), rounds + 1)])
        if steps == len(phases):
            # So many takes and waits have come to a ring; what follows hangs on its phase, so its last turns tell.
            many, takes = ring_of_climbs(phases, phase)
            if takes == 0:
                return None
            rings = rings_left_out(takes, room)
            room = room - rings * takes
            rounds = rounds + rings * many
        room = room - 1 if move == "take" else room
        phase = later
        rounds += 1
        steps += 1
        best = greatest([best, sum_of_ends(tables[("at", gap, phase)], rounds)])
    return best


def rounds_in(rule, tables, gap, phase, room):
    """The most rounds from a phase on at an integer of a gap, with its room."""
    return outer_rounds(rule, tables, phase) if room is None else near_rounds(rule, tables, gap, phase, room)


def fill_gap(rule, tables, gap):
    """Put the numbers of one gap into the tables, which have those of the gaps behind it."""
    marks, phases = rule
    for phase in range(len(phases)):
        tables[("far", gap, phase)] = far_rounds(rule, tables, gap, phase)
    for phase in range(len(phases)):
        tables[("at", gap, phase)] = at_rounds(rule, tables, gap, phase)
    if gap > 0:
        room = room_of(marks, marks[gap - 1])
        for phase in range(len(phases)):
            tables[("mark", gap, phase)] = rounds_in(rule, tables, gap, phase, room)
            if room is None:
                tables[("past", gap, phase)] = tables[("mark", gap, phase)]
            elif room > 0:
                tables[("past", gap, phase)] = rounds_in(rule, tables, gap, phase, room - 1)


def round_tables(rule, gap):
    """The most rounds from each gap, from this one on, and each phase on, for four words.

    "far" and "at": if only the cases from this one on can come at first; "mark": if the end is the mark at which the
    gap begins; "past": if it is by 1 greater than this mark, for gaps that have such an integer.
    """
    tables = {}
    for k in reversed(range(gap, len(rule[0]) + 1)):
        fill_gap(rule, tables, k)
    return tables


def most_behind(rule, tables, state):
    """The most rounds behind a state."""
    phase, end, _ = state
    if end is None:
        return 0
    gap = many_at_most(rule[0], end)
    floor = floor_index(rule[0], state)
    if floor > 0:
        return tables[(CASES[floor], gap, phase)]
    upper = mark_above(rule[0], end)
    room = None if upper is None else upper - least_ahead(state)
    return rounds_in(rule, tables, gap, phase, room)


def most_rounds(rule, first):
    """The greatest number of rounds of all rows with this first element, None if there is none."""
    require(is_integer(first), "first")
    return most_behind(rule, round_tables(rule, many_at_most(rule[0], first)), (0, first, first))


def longest_row(rule, first):
    """A row with this first element and the greatest number of rounds, all others being rounds; None without one."""
    require(is_integer(first), "first")
    tables = round_tables(rule, many_at_most(rule[0], first))
    state = (0, first, first)
    left = most_behind(rule, tables, state)
    if left is None:
        return None
    require(left <= LONGEST, "first")
    row = [first]
    while left > 0:
        left -= 1
        for y in picked_ends(rule[0], least_ahead(state)):
            behind = state_behind(rule, state, y)
            if most_behind(rule, tables, behind) == left:
                break
        row.append(y)
        state = behind
    return tuple(row)


def greatest_rounds(rule):
    """The greatest number of rounds of all rows, None if there is none."""
    tables = round_tables(rule, 0)
    # In the lowest gap more room than phases changes the number only where the outer gap has none.
    firsts = least_firsts(rule[0], len(rule[1]))
    return greatest([most_behind(rule, tables, (0, first, first)) for first in firsts])
