"""Which values are of which kind. Each function named is_.. accepts any value as its thing."""

MOVES = ("take", "next", "out", "wait")
CASES = ("near", "at", "far")


def is_integer(thing):
    """Whether it is an integer; a bool is none."""
    return isinstance(thing, int) and not isinstance(thing, bool)


def is_number(thing):
    """Whether it is an integer that is at least 0."""
    return is_integer(thing) and thing >= 0


def is_index(thing, many):
    """Whether it is an index of a sequence of so many elements."""
    return is_number(thing) and thing < many


def is_tuple_of(thing, many):
    """Whether it is a tuple of so many elements."""
    return isinstance(thing, tuple) and len(thing) == many


def is_filled_tuple(thing):
    """Whether it is a tuple that is not empty."""
    return isinstance(thing, tuple) and len(thing) > 0


def is_end(thing):
    """Whether it is an end: an integer, or None for endless."""
    return thing is None or is_integer(thing)


def is_ends(thing):
    """Whether it is a tuple of ends, possibly empty."""
    return isinstance(thing, tuple) and all([is_end(end) for end in thing])


def is_less(end, other):
    """Whether an end is less than another one; endless is greater than every integer."""
    return end is not None and (other is None or end < other)


def begins_as_row(thing):
    """Whether it is a nonempty tuple of ends whose first one is an integer, rising or not."""
    return is_ends(thing) and len(thing) > 0 and thing[0] is not None


def first_fall(ends):
    """The index of the first end that is less than the one ahead of it, None if there is none."""
    for k in range(1, len(ends)):
        if is_less(ends[k], ends[k - 1]):
            return k
    return None


def is_row(thing):
    """Whether it is a row."""
    return begins_as_row(thing) and first_fall(thing) is None


def first_bad_mark(marks):
    """The index of the first element of a tuple that cannot be a mark there, None if there is none."""
    for k, mark in enumerate(marks):
        if not is_integer(mark) or (k > 0 and mark <= marks[k - 1]):
            return k
    return None


def is_marks(thing):
    """Whether it is an ascending tuple of integers, possibly empty."""
    return isinstance(thing, tuple) and first_bad_mark(thing) is None


def is_move(thing):
    """Whether it is one of the four moves."""
    return isinstance(thing, str) and thing in MOVES


def is_case(thing):
    """Whether it is one of the words for the three cases."""
    return isinstance(thing, str) and thing in CASES


def is_case_pair(thing):
    """Whether it is a pair of a move and a number."""
    return is_tuple_of(thing, 2) and is_move(thing[0]) and is_number(thing[1])


def is_phase(thing):
    """Whether it is a phase, whose nexts may be any numbers."""
    return is_tuple_of(thing, 3) and all([is_case_pair(pair) for pair in thing])


def has_nexts_below(phase, many):
    """Whether all nexts of a phase are indexes of so many phases."""
    return all([later < many for move, later in phase])


def is_rule_form(thing):
    """Whether it is a pair of marks and a nonempty tuple of phases, whose nexts may be any numbers."""
    if not is_tuple_of(thing, 2) or not is_filled_tuple(thing[1]):
        return False
    return is_marks(thing[0]) and all([is_phase(phase) for phase in thing[1]])


def is_rule(thing):
    """Whether it is a rule."""
    if not is_rule_form(thing):
        return False
    phases = thing[1]
    return all([has_nexts_below(phase, len(phases)) for phase in phases])


def is_first_stair(thing):
    """Whether it can be the first pair of a step program."""
    return is_tuple_of(thing, 2) and thing[0] is None and is_integer(thing[1])


def is_stair_behind(thing, ahead):
    """Whether it can stand in a step program behind this pair of it."""
    if not is_tuple_of(thing, 2) or not is_integer(thing[0]) or not is_integer(thing[1]):
        return False
    return (ahead[0] is None or thing[0] > ahead[0]) and thing[1] >= ahead[1]


def is_stairs(thing):
    """Whether it can be the pairs of a step program."""
    if not is_filled_tuple(thing) or not is_first_stair(thing[0]):
        return False
    for k in range(1, len(thing)):
        if not is_stair_behind(thing[k], thing[k - 1]):
            return False
    return True


def is_program(thing):
    """Whether it is a step program."""
    return is_tuple_of(thing, 2) and is_stairs(thing[0]) and is_number(thing[1])


def is_span(thing):
    """Whether it is a pair of integers, the first one at most the other."""
    if not is_tuple_of(thing, 2) or not is_integer(thing[0]) or not is_integer(thing[1]):
        return False
    return thing[0] <= thing[1]
