"""Whether a rule is ever above another one on the step programs of a span."""

from endclimbs.errors import Restless
from endclimbs.kinds import is_less
from endclimbs.spans import programs_in
from endclimbs.stepping import end_on


def is_above_on(rule, other, program):
    """Whether both rules come to rest on a step program, and the end of rule is greater than that of other."""
    try:
        end = end_on(rule, program)
        other_end = end_on(other, program)
    except Restless:
        return False
    return is_less(other_end, end)


def above_program(rule, other, span):
    """A step program in a span on which both rules come to rest, rule at the greater end; None if there is none."""
    for program in programs_in(span):
        if is_above_on(rule, other, program):
            return program
    return None


def never_above_on_steps(rule, other, span):
    """Whether the end of rule is at most that of other on all step programs in a span on which both come to rest."""
    return above_program(rule, other, span) is None
