"""The events of a live analysis: which there are, which of them are possible, and what stands behind them.

What stands is a tuple (program, widening, ranges, phases).
"""

from endclimbs.analyses import at_first, is_open_at, replaced, walked
from endclimbs.kinds import is_filled_tuple, is_number, is_rule
from endclimbs.programs import incoming_ranges, is_letter, is_step, names_in

SIDES = ("low", "high")


def is_letters(thing):
    """Whether any value is a string of lowercase letters, possibly empty."""
    return isinstance(thing, str) and all([is_letter(letter) for letter in thing])


def is_side(thing):
    """Whether any value is a word for one of the two sides."""
    return isinstance(thing, str) and thing in SIDES


def is_event(thing):
    """Whether any value is by form an event."""
    if not is_filled_tuple(thing):
        return False
    word = thing[0]
    if len(thing) == 3:
        return word == "rule" and is_side(thing[1]) and is_rule(thing[2])
    if len(thing) != 2:
        return False
    if word == "visit" or word == "back":
        return is_letter(thing[1])
    if word == "walk":
        return is_letters(thing[1])
    return (word == "step" and is_step(thing[1])) or (word == "drop" and is_number(thing[1]))


def letters_of(event):
    """The letters of an event that have to be names: those that it goes to, and those of its step."""
    if event[0] == "step":
        return names_in(event[1])
    return "" if event[0] in ("drop", "rule") else event[1]


def reason_against_back(standing, name):
    """The reason why what comes in at a name cannot become its range, None if it can."""
    program, _, ranges, _ = standing
    if ranges[program[0].index(name)] is None or incoming_ranges(program, ranges, name) is None:
        return "none"
    return "open" if is_open_at(program, ranges, name) else None


def reason_against(standing, event, is_full, most_steps):
    """The first reason why any value is not possible as an event, None if it is possible.

    is_full tells whether there are as many events as there can be, most_steps how many steps there can be.
    """
    if not is_event(event):
        return "shape"
    if is_full:
        return "full"
    names, steps = standing[0]
    if not all([letter in names for letter in letters_of(event)]):
        return "name"
    if event[0] == "back":
        return reason_against_back(standing, event[1])
    if event[0] == "drop" and event[1] >= len(steps):
        return "none"
    return "many" if event[0] == "step" and len(steps) >= most_steps else None


def with_rule(standing, side, rule):
    """What stands if this is the rule of a side, all phases of which become 0."""
    program, widening, ranges, phases = standing
    if side == "low":
        return program, (rule,) + widening[1:], ranges, tuple([(0, high) for low, high in phases])
    return program, (widening[0], rule, widening[2]), ranges, tuple([(low, 0) for low, high in phases])


def behind_event(standing, event):
    """What stands behind an event that is possible."""
    program, widening, ranges, phases = standing
    names, steps = program
    word = event[0]
    if word == "rule":
        return with_rule(standing, event[1], event[2])
    if word == "step":
        program = (names, steps + (event[1],))
    elif word == "drop":
        program = (names, steps[:event[1]] + steps[event[1] + 1:])
    elif word == "back":
        ranges = replaced(ranges, names.index(event[1]), incoming_ranges(program, ranges, event[1]))
    else:
        ranges, phases = walked(program, widening, (ranges, phases), event[1])
    return program, widening, ranges, phases


def standing_first(program, widening):
    """What stands at the beginning of a live analysis."""
    ranges, phases = at_first(program[0])
    return program, widening, ranges, phases
