"""Analyses of programs with several names, whose ranges are widened by rules until nothing new comes in."""

from endclimbs.climbing import state_behind
from endclimbs.endvalues import minus
from endclimbs.errors import Restless, require
from endclimbs.kinds import is_number, is_rule, is_tuple_of
from endclimbs.programs import LETTERS, incoming_ranges, is_ranges, join_of

MANY_WALKS = 60
# A rule for analyses in which no name is widened, so that it is never asked.
TAKING = ((), ((("take", 0), ("take", 0), ("take", 0)),))


def is_widened(names, thing):
    """Whether any value is a string of some of the names, each at most once, in their order."""
    return isinstance(thing, str) and thing == "".join([name for name in names if name in thing])


def is_widening(program, thing):
    """Whether any value is a widening of a program."""
    if not is_tuple_of(thing, 3):
        return False
    return is_rule(thing[0]) and is_rule(thing[1]) and is_widened(program[0], thing[2])


def is_order(names, thing):
    """Whether any value is a string of all the names, each once."""
    if not isinstance(thing, str) or len(thing) != len(names):
        return False
    return all([name in thing for name in names])


def is_many_walks(thing):
    """Whether any value can be the most walks of an analysis."""
    return is_number(thing) and thing <= MANY_WALKS


def replaced(rows, k, thing):
    """A tuple with another thing at its index k."""
    return rows[:k] + (thing,) + rows[k + 1:]


def at_first(names):
    """The pair of the ranges and the phases that the names have at first."""
    return (None,) * len(names), ((0, 0),) * len(names)


def end_behind(rule, phase, end, y):
    """The phase and the end of a rule when y comes in at an end in a phase."""
    later, reached, _ = state_behind(rule, (phase, end, end), y)
    return later, reached


def widened_by(widening, phases, held, comes):
    """The range and the phases of a widened name with this range when another range comes in."""
    low_phase, low = end_behind(widening[0], phases[0], minus(held[0]), minus(comes[0]))
    high_phase, high = end_behind(widening[1], phases[1], held[1], comes[1])
    return (minus(low), high), (low_phase, high_phase)


def visited(program, widening, standing, name):
    """The pair of the ranges and the phases behind a visit of a name, standing being that ahead of it."""
    ranges, phases = standing
    comes = incoming_ranges(program, ranges, name)
    if comes is None:
        return standing
    k = program[0].index(name)
    if ranges[k] is None or name not in widening[2]:
        return replaced(ranges, k, join_of(ranges[k], comes)), phases
    held, now = widened_by(widening, phases[k], ranges[k], comes)
    return replaced(ranges, k, held), replaced(phases, k, now)


def walked(program, widening, standing, names):
    """The same behind visits of some names, one after the other."""
    for name in names:
        standing = visited(program, widening, standing, name)
    return standing


def is_open_at(program, ranges, name):
    """Whether a range comes in at a name while it has none, or one within which that does not lie."""
    held = ranges[program[0].index(name)]
    return join_of(held, incoming_ranges(program, ranges, name)) != held


def open_among(program, ranges):
    """The string of such names."""
    return "".join([name for name in program[0] if is_open_at(program, ranges, name)])


def walks_and_result(program, widening, order, most):
    """How many walks an analysis needs, and its result; Restless if they are more than most."""
    standing = at_first(program[0])
    walks = 0
    while open_among(program, standing[0]) != "":
        if walks == most:
            raise Restless(most)
        standing = walked(program, widening, standing, order)
        walks += 1
    return walks, standing[0]


def require_analysis(program, widening, order, most):
    """Raise NotUsable for the first one of the others that is none of the program."""
    require(is_widening(program, widening), "widening")
    require(is_order(program[0], order), "order")
    require(is_many_walks(most), "most")


def analysed(program, widening, order, *, most=60):
    """The result of an analysis of a program, the walks going in this order."""
    require_analysis(program, widening, order, most)
    return walks_and_result(program, widening, order, most)[1]


def walks_of(program, widening, order, *, most=60):
    """How many walks the same analysis needs."""
    require_analysis(program, widening, order, most)
    return walks_and_result(program, widening, order, most)[0]


def orders_of(names):
    """All orders of the names, ascending as strings."""
    letters = [letter for letter in LETTERS if letter in names]
    orders = [""]
    for _ in letters:
        orders = [order + letter for order in orders for letter in letters if letter not in order]
    return orders


def result_or_none(program, widening, order):
    """The result of an analysis, None if sixty walks are not enough."""
    try:
        return walks_and_result(program, widening, order, MANY_WALKS)[1]
    except Restless:
        return None


def all_results(program, widening):
    """The pairs of each order of the names and the result in it, None if sixty walks are not enough."""
    require(is_widening(program, widening), "widening")
    return tuple([(order, result_or_none(program, widening, order)) for order in orders_of(program[0])])


def is_closed(program, ranges):
    """Whether at each name nothing comes in, or a range that lies within its own."""
    require(is_ranges(program, ranges), "ranges")
    return open_among(program, ranges) == ""


def least_ranges(program, *, most=60):
    """The result of an analysis in the order of the names, none of which is widened."""
    require(is_many_walks(most), "most")
    return walks_and_result(program, (TAKING, TAKING, ""), program[0], most)[1]
