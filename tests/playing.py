"""What [3] to [7] say of rules, written once more, slowly and by the words, to compare the program with."""

import random

MOVES = ('take', 'next', 'out', 'wait')
CASES = ('near', 'at', 'far')
ENDLESS = 10 ** 90


def big(end):
    """An end as an integer by which ends can be compared."""
    return ENDLESS if end is None else end


def case_by_words(marks, x, y):
    if big(y) <= x:
        return None
    if y is not None and not [mark for mark in marks if x < mark <= y]:
        return 'near'
    above = [mark for mark in marks if mark > x]
    if above and y == min(above):
        return 'at'
    return 'far'


def round_by_words(rule, phase, end, y):
    """The (phase, end) behind y."""
    if end is None or big(y) <= end:
        return phase, end
    marks, phases = rule
    move, later = phases[phase][CASES.index(case_by_words(marks, end, y))]
    if move == 'take':
        return later, y
    if move == 'next':
        enough = [mark for mark in marks if mark >= big(y)]
        return later, (min(enough) if enough else None)
    return later, (None if move == 'out' else end)


def states_by_words(rule, row):
    states = [(0, row[0], row[0])]
    for y in row[1:]:
        phase, end = round_by_words(rule, states[-1][0], states[-1][1], y)
        states.append((phase, end, y if big(y) > big(end) else end))
    return tuple(states)


def made_rules(many, marks=4, phases=3):
    """Rules of all kinds, always the same ones."""
    source = random.Random(7)
    for _ in range(many):
        count = source.randint(1, phases)
        chosen = tuple(sorted(source.sample(range(-2, 9), source.randint(0, marks))))
        pair = [(move, later) for move in MOVES + ('wait',) for later in range(count)]
        yield chosen, tuple(tuple(source.choice(pair) for _ in CASES) for _ in range(count))


def made_rows(many, length=7):
    """Rows of all lengths, some with endless at the end, always the same ones."""
    source = random.Random(11)
    for _ in range(many):
        row = sorted(source.choices(range(-4, 12), k=source.randint(1, length)))
        if source.random() < 0.3:
            row += [None] * source.randint(1, 3)
        yield tuple(row)
