"""Which marks can be left out, and which delays fit, within so many rounds."""

from endclimbs.casing import many_at_most
from endclimbs.errors import require
from endclimbs.kinds import is_integer, is_number
from endclimbs.rounds import most_behind, most_rounds, round_tables


def fits(rounds, most):
    """Whether there is a greatest number of rounds, and it is at most most."""
    return rounds is not None and rounds <= most


def sets_of(marks):
    """All sets of these marks, those with fewer ones ahead."""
    found = [()]
    k = 0
    while k < len(found):
        chosen = found[k]
        k += 1
        for mark in marks:
            if len(chosen) == 0 or mark > chosen[-1]:
                found.append(chosen + (mark,))
    return found


def least_marks(rule, first, most):
    """As few marks of a rule as let it have at most so many rounds from first, None if no set of them does."""
    require(is_integer(first), "first")
    require(is_number(most), "most")
    for marks in sets_of(rule[0]):
        if fits(most_rounds((marks, rule[1]), first), most):
            return marks
    return None


def with_delay(rule, count):
    """The rule with count phases ahead that take whatever comes in."""
    marks, phases = rule
    ahead = tuple([(("take", k + 1),) * 3 for k in range(count)])
    own = tuple([tuple([(move, later + count) for move, later in phase]) for phase in phases])
    return marks, ahead + own


def delayed(rule, count):
    """The rule with count phases ahead that take whatever comes in."""
    require(is_number(count), "count")
    return with_delay(rule, count)


def fitting_delays(rule, first, most):
    """The numbers count such that the rule, delayed by count, has at most so many rounds from first."""
    require(is_integer(first), "first")
    require(is_number(most), "most")
    # Takes can come up to each count, so none above most fits; each other delay is the end of the longest one.
    longest = with_delay(rule, most)
    tables = round_tables(longest, many_at_most(rule[0], first))
    found = []
    for count in range(most + 1):
        if fits(most_behind(longest, tables, (most - count, first, first)), most):
            found.append(count)
    return tuple(found)
