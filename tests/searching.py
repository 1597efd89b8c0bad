"""Slow searches by the words of [3] to [9], over all rows of a small window around the marks."""

import itertools
import random

from playing import CASES, MOVES, big, case_by_words, round_by_words

ENDLESSLY_MANY = float('inf')


def behind(rule, state, y):
    """The state behind y."""
    phase, end = round_by_words(rule, state[0], state[1], y)
    return phase, end, (y if big(y) > big(end) else end)


def window(marks, more):
    """The integers from so many below the marks to so many above them."""
    return tuple(range(min(marks, default=0) - more, max(marks, default=0) + more + 1))


def waiting(state):
    return big(state[2]) > big(state[1])


def coming(state, ends, steady=False):
    """Those of the ends that are rounds behind a row with this state."""
    if state[1] is None:
        return []
    if steady and waiting(state):
        return [state[2]]
    return [y for y in ends if big(y) > state[1] and big(y) >= big(state[2])]


def all_states(rule, firsts, ends, steady=False):
    """All states behind rows with these first elements and other elements of ends."""
    found = {(0, first, first) for first in firsts}
    todo = list(found)
    while todo:
        state = todo.pop()
        for y in coming(state, ends, steady):
            new = behind(rule, state, y)
            if new not in found:
                found.add(new)
                todo.append(new)
    return found


def slow_gap(marks, x):
    return len([mark for mark in marks if mark <= x])


def slow_spot(marks, state):
    phase, end, last = state
    return phase, slow_gap(marks, end), case_by_words(marks, end, last) if waiting(state) else 'near'


def slow_spots(rule, steady=False):
    """spots_of, or steady_spots, by all rows of the window."""
    marks, phases = rule
    ints = window(marks, len(phases) + 2)
    found = {}
    for state in all_states(rule, ints, ints if steady else ints + (None,), steady):
        if state[1] is not None and not (steady and waiting(state)):
            spot = slow_spot(marks, state)
            if spot[1] in (0, len(marks)):
                found[spot] = None
            else:
                room = len(range(state[1] + 1, marks[spot[1]]))
                found[spot] = max(room, found.get(spot, 0))
    return tuple(sorted(found.items()))


def longest(rule, state, ends, steady, known):
    """The most rounds behind a state by the ends, infinite if they can go round in a ring."""
    if state not in known:
        # If it is met again before this is over, it lies on a ring.
        known[state] = ENDLESSLY_MANY
        known[state] = max([1 + longest(rule, behind(rule, state, y), ends, steady, known)
                            for y in coming(state, ends, steady)], default=0)
    return known[state]


def rounds_from(rule, firsts, steady=False):
    """The greatest number of rounds from each first element, None if there is none, by windows of two sizes.

    The first elements are at most 3 above the marks.
    """
    found = []
    marks, phases = rule
    # Above the marks there have to be more rounds than between them can be.
    wide = len(phases) + 4 + (marks[-1] - marks[0] if marks else 0)
    for more in (wide, wide * 2):
        ints = window(marks, more)
        known = {}
        ends = ints if steady else ints + (None,)
        found.append([longest(rule, (0, first, first), ends, steady, known) for first in firsts])
    return [few if few == more and few != ENDLESSLY_MANY else None for few, more in zip(*found)]


def bent_rules(many, marks=3, phases=3, seed=3, places=range(0, 8), moves=MOVES):
    """Rules with many takes and waits, about half of which rest, always the same ones."""
    source = random.Random(seed)
    for _ in range(many):
        count = source.randint(1, phases)
        chosen = tuple(sorted(source.sample(places, source.randint(0, marks))))
        likely = source.choice((('take',), ('wait',), ('take', 'wait'), tuple(moves)))
        onward = source.random() < 0.6
        made = []
        for k in range(count):
            phase = []
            for _ in CASES:
                move = source.choice(likely if source.random() < 0.6 else moves)
                # Takes and waits that only lead to later phases come to an end.
                if onward and move in ('take', 'wait') and k == count - 1:
                    move = source.choice(('next', 'out'))
                low = k + 1 if onward and move in ('take', 'wait') else 0
                phase.append((move, source.randrange(low, count)))
            made.append(tuple(phase))
        yield chosen, tuple(made)


def slow_incoming(program, x):
    """What comes in at an end on a step program."""
    pairs, plus = program
    d = [d for c, d in pairs if c is None or c <= big(x)][-1]
    if plus and x is None:
        return None
    return max(d, x + plus) if plus else d


def slow_playing(rule, program, most=200):
    """The row played on a step program and the end behind it, or None if there are more rounds than most."""
    phase, end, row = 0, program[0][0][1], [program[0][0][1]]
    while big(slow_incoming(program, end)) > big(end):
        y = slow_incoming(program, end)
        row.append(y)
        if len(row) > most + 1:
            return None
        phase, end = round_by_words(rule, phase, end, y)
    return tuple(row), end


def made_programs(many, seed=4, places=range(-2, 12), pairs=6, plus=3):
    """Step programs, half of them with plus, always the same ones."""
    source = random.Random(seed)
    for _ in range(many):
        count = source.randint(1, pairs)
        cs = sorted(source.sample(places, count - 1))
        ds = sorted(source.choices(places, k=count))
        yield tuple(zip([None] + cs, ds)), source.choice((0, source.randint(1, plus)))


def programs_of(span):
    """All step programs that lie in a span."""
    ints = range(span[0], span[1] + 1)
    for many in range(len(ints) + 1):
        for cs in itertools.combinations(ints, many):
            for ds in itertools.combinations_with_replacement(ints, many + 1):
                yield tuple(zip((None,) + cs, ds)), 0
