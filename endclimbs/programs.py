"""Programs with several names, whose steps let ranges come in at the names."""

from endclimbs.endvalues import greater_low, lesser_low, sum_of_ends
from endclimbs.errors import InvalidPaper, require
from endclimbs.kinds import is_end, is_filled_tuple, is_integer, is_less, is_tuple_of

LETTERS = "abcdefghijklmnopqrstuvwxyz"


def is_letter(thing):
    """Whether it is a lowercase letter."""
    return isinstance(thing, str) and len(thing) == 1 and thing in LETTERS


def is_range(thing):
    """Whether any value is a range."""
    if not is_tuple_of(thing, 2) or not is_end(thing[0]) or not is_end(thing[1]):
        return False
    return thing[0] is None or not is_less(thing[1], thing[0])


def has_two_names(step):
    """Whether the second and the third part of a step are letters."""
    return is_letter(step[1]) and is_letter(step[2])


def is_step(thing):
    """Whether any value is a step, with any lowercase letters as names."""
    if not is_filled_tuple(thing):
        return False
    word = thing[0]
    if word == "is" and len(thing) == 4:
        return is_letter(thing[1]) and is_range(thing[2:])
    if word == "plus" and len(thing) == 4:
        return has_two_names(thing) and is_integer(thing[3])
    if word == "within" and len(thing) == 5:
        return has_two_names(thing) and is_range(thing[3:])
    if word == "when" and len(thing) == 7:
        return has_two_names(thing) and is_range(thing[3:5]) and is_range(thing[5:])
    return False


def is_names(text):
    """Whether a string consists of different lowercase letters, possibly none."""
    return all([is_letter(text[k]) and text[k] not in text[:k] for k in range(len(text))])


def names_in(step):
    """The names of a step."""
    return step[1:2] if step[0] == "is" else step[1:3]


def lets_names(thing):
    """How many steps a name program has; InvalidPaper for any value that is none."""
    if not is_tuple_of(thing, 2) or not isinstance(thing[0], str) or not isinstance(thing[1], tuple):
        raise InvalidPaper("shape", -1)
    names, steps = thing
    if not is_names(names):
        raise InvalidPaper("names", -1)
    for k, step in enumerate(steps):
        if not is_step(step):
            raise InvalidPaper("step", k)
        if not all([name in names for name in names_in(step)]):
            raise InvalidPaper("name", k)
    return len(steps)


def meet_of(one, other):
    """The range of the integers that two ranges both have, None if they have none in common."""
    low = greater_low(one[0], other[0])
    high = one[1] if is_less(one[1], other[1]) else other[1]
    return (low, high) if low is None or not is_less(high, low) else None


def join_of(one, other):
    """The least range with the integers of two ranges, each of which may be None for nothing."""
    if one is None or other is None:
        return other if one is None else one
    return lesser_low(one[0], other[0]), (other[1] if is_less(one[1], other[1]) else one[1])


def brought_by(step, held):
    """What comes in by a step if its b has this range, None for nothing; a step that is has no b."""
    if step[0] == "is":
        return step[2:]
    if held is None:
        return None
    if step[0] == "plus":
        return sum_of_ends(held[0], step[3]), sum_of_ends(held[1], step[3])
    met = meet_of(held, step[3:5])
    return step[5:] if step[0] == "when" and met is not None else met


def is_ranges(program, thing):
    """Whether any value is a tuple with a range, or None, for each name of a program."""
    if not is_tuple_of(thing, len(program[0])):
        return False
    return all([held is None or is_range(held) for held in thing])


def incoming_ranges(program, ranges, name):
    """What comes in at a name of the program when these are the ranges, None for nothing."""
    names, steps = program
    require(is_ranges(program, ranges), "ranges")
    require(is_letter(name) and name in names, "name")
    found = None
    for step in steps:
        if step[1] == name:
            held = None if step[0] == "is" else ranges[names.index(step[2])]
            found = join_of(found, brought_by(step, held))
    return found
