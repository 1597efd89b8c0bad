"""Back rounds, by which an end comes down again, and whether they are safe."""

from endclimbs.climbing import mark_at_least
from endclimbs.errors import Restless, require
from endclimbs.kinds import is_end, is_less, is_marks, is_number, is_tuple_of
from endclimbs.spans import programs_in
from endclimbs.stepping import end_on, what_comes

BACK_MOVES = ("keep", "take", "next", "down")


def is_back_move(thing):
    """Whether it is one of the four moves of back rules."""
    return isinstance(thing, str) and thing in BACK_MOVES


def is_back(thing):
    """Whether any value is a back rule."""
    return is_tuple_of(thing, 4) and is_number(thing[0]) and all([is_back_move(move) for move in thing[1:]])


def mark_below(marks, x):
    """The greatest mark that is less than the end x, or x itself without one."""
    found = x
    for mark in marks:
        if is_less(mark, x):
            found = mark
    return found


def end_back(marks, back, x, y):
    """The end behind one back round, in which y comes in at x."""
    if not is_less(y, x):
        return x
    _, endless, at_mark, other = back
    move = endless if x is None else (at_mark if x in marks else other)
    if move == "take":
        return y
    if move == "down":
        return mark_below(marks, x)
    mark = mark_at_least(marks, y)
    return mark if move == "next" and is_less(mark, x) else x


def back_move(marks, back, x, y):
    """The end behind one back round by the moves of a back rule, in which the end y comes in at the end x."""
    require(is_marks(marks), "marks")
    require(is_back(back), "back")
    require(is_end(x), "x")
    require(is_end(y), "y")
    return end_back(marks, back, x, y)


def narrowed(rule, program, back):
    """The end behind the playing of a rule on a step program and the back rounds that follow."""
    require(is_back(back), "back")
    end = end_on(rule, program)
    for _ in range(back[0]):
        behind = end_back(rule[0], back, end, what_comes(program, end))
        # What stays once stays in all further rounds, however many they are.
        if behind == end:
            return end
        end = behind
    return end


def is_unsafe_on(rule, back, program):
    """Whether the playing ends on a program, and what then comes in at the narrowed end is greater than this."""
    try:
        end = narrowed(rule, program, back)
    except Restless:
        return False
    return is_less(end, what_comes(program, end))


def unsafe_program(rule, back, span):
    """A step program in the span on which a back rule is not safe behind the rule, None if there is none."""
    require(is_back(back), "back")
    for program in programs_in(span):
        if is_unsafe_on(rule, back, program):
            return program
    return None


def is_safe(rule, back, span):
    """Whether a back rule is safe behind the rule on all step programs in the span."""
    return unsafe_program(rule, back, span) is None
