"""The checker of papers of rest. It follows what a paper lists, and does not search."""

from endclimbs.casing import mark_above
from endclimbs.climbing import rounds_of, states_of_row
from endclimbs.errors import InvalidPaper
from endclimbs.kinds import CASES, is_case, is_filled_tuple, is_index, is_integer, is_less, is_number
from endclimbs.kinds import is_row, is_tuple_of
from endclimbs.rings import climbs_on, waits_on


def is_ring_paper(thing):
    """Whether it is by form a paper that a rule does not rest."""
    if not is_tuple_of(thing, 3) or thing[0] != "rings" or not is_row(thing[1]):
        return False
    return is_filled_tuple(thing[2]) and is_row(thing[1] + thing[2])


def is_spot(rule, thing):
    """Whether it is by form a spot of the rule."""
    if not is_tuple_of(thing, 3):
        return False
    phase, gap, floor = thing
    return is_index(phase, len(rule[1])) and is_index(gap, len(rule[0]) + 1) and is_case(floor)


def is_entry(rule, thing):
    """Whether it is a pair of a spot and a room, which is a number or None."""
    if not is_tuple_of(thing, 2) or not is_spot(rule, thing[0]):
        return False
    return thing[1] is None or is_number(thing[1])


def is_rest_paper(rule, thing):
    """Whether it is by form a paper that the rule rests."""
    if not is_tuple_of(thing, 2) or thing[0] != "rests" or not isinstance(thing[1], tuple):
        return False
    return all([is_entry(rule, entry) for entry in thing[1]])


def is_outer(rule, end):
    """Whether an end is an integer in the outer gap."""
    return end is not None and mark_above(rule[0], end) is None


def waits_alone(more, moves):
    """Whether all elements of more are equal and rounds by which the end waits, the moves being those of its rounds."""
    return len(moves) == len(more) and all([y == more[0] for y in more]) and all([move == "wait" for move in moves])


def lets_ring(rule, row, more):
    """Raise InvalidPaper unless more can come in again and again behind the row, with rounds each time."""
    states = states_of_row(rule, row + more)
    before = states[len(row) - 1]
    behind = states[-1]
    if before[0] != behind[0]:
        raise InvalidPaper("phase", -1)
    moves = [move for k, case, move in rounds_of(rule, row + more) if k >= len(row)]
    if not moves:
        raise InvalidPaper("round", -1)
    climbs = all([is_integer(y) for y in row + more]) and is_outer(rule, before[1]) and is_outer(rule, behind[1])
    if not climbs and not waits_alone(more, moves):
        raise InvalidPaper("ring", -1)


def top_room(marks, gap):
    """The greatest room that an integer of a gap has, None if there is no greatest one."""
    return None if gap in (0, len(marks)) else marks[gap] - marks[gap - 1] - 1


def has_entry(rooms, spot, room):
    """Whether there is an entry for a spot with room enough."""
    return spot in rooms and not is_less(rooms[spot], room)


def can_come(rule, spot, room, case):
    """Whether the case with this index can come at a spot with this room."""
    outer = spot[1] == len(rule[0])
    if case < CASES.index(spot[2]):
        return False
    if case == 0:
        return outer or room is None or room >= 1
    return case == 2 or not outer


def spots_at_marks(marks, gap, later):
    """The spots and rooms at the marks from which on the ends are in this gap or in one behind it."""
    return [((later, k, "near"), top_room(marks, k)) for k in range(gap, len(marks) + 1)]


def spots_far(marks, gap, move, later):
    """The spots and rooms to which a far take or next gets from a gap."""
    found = spots_at_marks(marks, gap + 2, later)
    if move == "take" and gap < len(marks):
        room = top_room(marks, gap + 1)
        # Without room, the gap behind has no integer that is greater than its mark.
        if room is None or room >= 1:
            found.append(((later, gap + 1, "near"), None if room is None else room - 1))
    return found


def spots_behind(rule, spot, room, case):
    """The spots, with the rooms, to which the end can get from a spot with this room by this case."""
    marks, phases = rule
    phase, gap, _ = spot
    move, later = phases[phase][case]
    if move == "out":
        return []
    if move == "wait":
        return [((later, gap, CASES[case]), room)]
    if case == 2:
        return spots_far(marks, gap, move, later)
    if case == 0 and move == "take":
        return [((later, gap, "near"), None if room is None else room - 1)]
    return spots_at_marks(marks, gap + 1, later)[:1]


def lets_case(rule, rooms, entry, k, case):
    """Raise InvalidPaper unless what follows by a case behind entry k has entries, and does not go on for ever."""
    spot, room = entry
    if not all([has_entry(rooms, behind, due) for behind, due in spots_behind(rule, spot, room, case)]):
        raise InvalidPaper("entry", (k, case))
    climbs = case == 0 and spot[1] == len(rule[0]) and climbs_on(rule[1], spot[0])
    if climbs or waits_on(rule[1], spot[0], case):
        raise InvalidPaper("ring", (k, case))


def lets_entries(rule, entries):
    """Raise InvalidPaper unless the entries hold all that can come up, and nothing of it goes on for ever."""
    for k in range(1, len(entries)):
        if entries[k][0] <= entries[k - 1][0]:
            raise InvalidPaper("order", k)
    rooms = {spot: room for spot, room in entries}
    for gap in range(len(rule[0]) + 1):
        if not has_entry(rooms, (0, gap, "near"), top_room(rule[0], gap)):
            raise InvalidPaper("first", gap)
    for k, entry in enumerate(entries):
        for case in range(3):
            if can_come(rule, entry[0], entry[1], case):
                lets_case(rule, rooms, entry, k, case)


def lets_rest(rule, thing):
    """True for a paper that the rule rests, False for one that it does not; InvalidPaper for any other value."""
    if is_ring_paper(thing):
        lets_ring(rule, thing[1], thing[2])
        return False
    if not is_rest_paper(rule, thing):
        raise InvalidPaper("shape", -1)
    lets_entries(rule, thing[1])
    return True
