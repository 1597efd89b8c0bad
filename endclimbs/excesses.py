"""How far settled ends get above the last element of rows in a span."""

from endclimbs.climbing import settling, state_behind, waits
from endclimbs.endvalues import sum_of_ends
from endclimbs.kinds import is_less


def rows_in(rule, span):
    """The pairs (state, row) behind rows in a span: a shortest row for each state and last element, shorter ahead."""
    first, top = span
    found = [((0, first, first), (first,))]
    known = {((0, first, first), first): True}
    k = 0
    while k < len(found):
        state, row = found[k]
        k += 1
        for y in range(row[-1], top + 1):
            behind = state_behind(rule, state, y)
            if (behind, y) not in known:
                known[(behind, y)] = True
                found.append((behind, row + (y,)))
    return found


def excesses_in(rule, span):
    """The pairs (excess, row) of such rows that have a settled end, shorter ones ahead; None is an endless excess."""
    pairs = []
    for state, row in rows_in(rule, span):
        settled = settling(rule, state)[-1]
        if not waits(settled):
            pairs.append((sum_of_ends(settled[1], -row[-1]), row))
    return pairs


def inexact_row(rule, span):
    """A shortest row in a span that has another excess than 0, None if there is none."""
    for excess, row in excesses_in(rule, span):
        if excess != 0:
            return row
    return None


def is_exact(rule, span):
    """Whether all rows in a span that have a settled end have the excess 0."""
    return inexact_row(rule, span) is None


def greatest_pair(rule, span):
    """The greatest excess in a span, with a shortest row that has it."""
    found = None
    for pair in excesses_in(rule, span):
        if found is None or is_less(found[0], pair[0]):
            found = pair
    return found


def greatest_excess(rule, span):
    """The greatest excess of all rows in a span, None if it is endless."""
    return greatest_pair(rule, span)[0]


def excess_row(rule, span):
    """A shortest row in a span that has the greatest excess."""
    return greatest_pair(rule, span)[1]
