"""Whether a rule rests, on rows and on steps, and a ring of rounds that never ends if it does not."""

from endclimbs.climbing import state_behind
from endclimbs.errors import require
from endclimbs.kinds import is_integer
from endclimbs.picking import least_ahead, picked_ends
from endclimbs.reaching import reached, reached_from_all
from endclimbs.rings import goes_on
from endclimbs.spots import spots_of


def rings_among(rule, best):
    """The triples (state, row, y) of what was reached such that rounds as with y can go on for ever behind the row."""
    found = []
    for spot in best:
        state, row = best[spot]
        for y in picked_ends(rule[0], least_ahead(state)):
            if goes_on(rule, state, y):
                found.append((state, row, y))
    return found


def steady_rings(rule):
    """The same behind steady rows of integers, with integers y."""
    return [ring for ring in rings_among(rule, reached_from_all(rule, True)) if ring[2] is not None]


def rests(rule):
    """Whether a rule rests."""
    return not rings_among(rule, reached_from_all(rule, False))


def rests_from(rule, first):
    """Whether some number bounds the rounds of all rows with this first element."""
    require(is_integer(first), "first")
    return not rings_among(rule, reached(rule, (first,), False))


def rests_on_steps(rule):
    """Whether the playing of a rule ends on all step programs."""
    return not steady_rings(rule)


def ring_from(rule, state, row, y):
    """A pair (row, more) by rounds that go on for ever from a state on, y being the first that comes in."""
    state = state_behind(rule, state, y)
    row = row + (y,)
    # Behind as many rounds as phases each phase that comes up does so again and again.
    for _ in rule[1]:
        row = row + (least_ahead(state),)
        state = state_behind(rule, state, row[-1])
    phase = state[0]
    more = (least_ahead(state),)
    state = state_behind(rule, state, more[-1])
    while state[0] != phase:
        more = more + (least_ahead(state),)
        state = state_behind(rule, state, more[-1])
    return row, more


def ring_of(rule):
    """None if a rule rests; otherwise a pair (row, more) such that more can come again and again behind the row."""
    rings = rings_among(rule, reached_from_all(rule, False))
    if not rings:
        return None
    state, row, y = rings[0]
    return ring_from(rule, state, row, y)


def rest_paper(rule):
    """A paper of whether a rule rests."""
    ring = ring_of(rule)
    return ("rests", spots_of(rule)) if ring is None else ("rings", ring[0], ring[1])
