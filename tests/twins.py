"""Rules that are like other ones on all rows, and rules that are so in most."""

from playing import MOVES


def turned_phases(rule, source):
    """The rule with its phases in another order, the first one first."""
    marks, phases = rule
    order = [0] + source.sample(range(1, len(phases)), len(phases) - 1)
    place = {old: k for k, old in enumerate(order)}
    return marks, tuple(tuple((move, place[later]) for move, later in phases[old]) for old in order)


def doubled_phases(rule, source):
    """The rule with each phase twice, each next being one of both."""
    marks, phases = rule
    return marks, tuple(tuple((move, later + source.choice((0, len(phases)))) for move, later in phase)
                        for phase in phases * 2)


def otherwise_at_marks(rule, source):
    """The rule with take for next at a mark, or the other way round, here and there."""
    marks, phases = rule
    words = {'take': ('take', 'next'), 'next': ('take', 'next'), 'out': ('out',), 'wait': ('wait',)}
    return marks, tuple((near, (source.choice(words[at[0]]), at[1]), far) for near, at, far in phases)


def with_more(rule, source):
    """The rule with a phase that is never reached."""
    return rule[0], rule[1] + (tuple((source.choice(MOVES), 0) for _ in range(3)),)


WAYS = (turned_phases, doubled_phases, otherwise_at_marks, with_more)


def changed(rule, source):
    """A rule that is like this one in most."""
    marks, phases = rule
    way = source.randrange(3)
    if way == 0 and marks:
        return tuple(mark for mark in marks if mark != source.choice(marks)), phases
    if way == 1:
        return tuple(sorted(set(marks) | {source.randrange(8)})), phases
    k, case = source.randrange(len(phases)), source.randrange(3)
    pairs = list(phases[k])
    pairs[case] = (source.choice(MOVES), source.randrange(len(phases)))
    return marks, phases[:k] + (tuple(pairs),) + phases[k + 1:]
