"""What [57], [59], [62] and [63] say of analyses, written once more, slowly and by the words, to compare with."""

import random

from playing import ENDLESS, big, round_by_words
from searching import bent_rules

LATER = ((), ((('take', 1), ('take', 1), ('out', 1)), (('out', 1), ('out', 1), ('out', 1))))
CHAIN = ('fgw', (('is', 'f', 5, 5), ('plus', 'g', 'f', 2), ('is', 'w', 0, 0), ('within', 'w', 'f', None, None),
                 ('within', 'w', 'g', None, None)))
WIDE = (LATER, LATER, 'w')
ALPHABET = 'abcdefghijklmnopqrstuvwxyz'


def small(low):
    """A low end as an integer by which low ends can be compared."""
    return -ENDLESS if low is None else low


def bounds(held):
    return small(held[0]), big(held[1])


def as_range(low, high):
    return None if low == -ENDLESS else low, None if high == ENDLESS else high


def coming_by_words(program, ranges, name):
    """What comes in at a name, ranges being a dict."""
    found = []
    for word, a, *others in program[1]:
        if a != name:
            continue
        if word == 'is':
            found.append(bounds(others))
        elif ranges[others[0]] is not None:
            low, high = bounds(ranges[others[0]])
            if word == 'plus':
                found.append((low if low == -ENDLESS else low + others[1], high if high == ENDLESS else high + others[1]))
                continue
            met = max(low, small(others[1])), min(high, big(others[2]))
            if met[0] <= met[1]:
                found.append(met if word == 'within' else bounds(others[3:]))
    if not found:
        return None
    return as_range(min(low for low, _ in found), max(high for _, high in found))


def lies_within(one, other):
    return other is not None and small(other[0]) <= small(one[0]) and big(one[1]) <= big(other[1])


def negated(end):
    return None if end is None else -end


class Slow:
    """An analysis of a program, as it stands."""

    def __init__(self, program, widening):
        self.begun = ('live', program, widening)
        self.program = program
        self.widening = widening
        self.ranges = {name: None for name in program[0]}
        self.phases = {name: [0, 0] for name in program[0]}

    def now(self):
        """The ranges and the phases, as the program tells them."""
        names = self.program[0]
        return tuple(self.ranges[name] for name in names), tuple(tuple(self.phases[name]) for name in names)

    def coming(self, name):
        return coming_by_words(self.program, self.ranges, name)

    def visit(self, name):
        comes = self.coming(name)
        held = self.ranges[name]
        if comes is None:
            return
        if held is None:
            self.ranges[name] = comes
        elif name not in self.widening[2]:
            self.ranges[name] = as_range(min(small(held[0]), small(comes[0])), max(big(held[1]), big(comes[1])))
        else:
            low, high, _ = self.widening
            phases = self.phases[name]
            phases[1], top = round_by_words(high, phases[1], held[1], comes[1])
            phases[0], bottom = round_by_words(low, phases[0], negated(held[0]), negated(comes[0]))
            self.ranges[name] = (negated(bottom), top)

    def open_names(self):
        return ''.join(name for name in self.program[0]
                       if self.coming(name) is not None and not lies_within(self.coming(name), self.ranges[name]))

    def reason(self, event, many):
        """The reason why an event by form is not possible behind so many events."""
        names, steps = self.program
        word = event[0]
        if many >= 40:
            return 'full'
        letters = {'step': lambda: event[1][1:2] if event[1][0] == 'is' else event[1][1:3], 'drop': str, 'rule': str}
        if any(letter not in names for letter in letters.get(word, lambda: event[1])()):
            return 'name'
        if word == 'back':
            comes = self.coming(event[1])
            if comes is None or self.ranges[event[1]] is None:
                return 'none'
            return None if lies_within(comes, self.ranges[event[1]]) else 'open'
        if word == 'drop' and event[1] >= len(steps):
            return 'none'
        return 'many' if word == 'step' and len(steps) >= 12 else None

    def apply(self, event):
        """Apply a possible event, and tell the answer."""
        before = dict(self.ranges)
        names, steps = self.program
        word = event[0]
        if word in ('visit', 'walk'):
            for name in event[1]:
                self.visit(name)
        elif word == 'back':
            self.ranges[event[1]] = self.coming(event[1])
        elif word == 'step':
            self.program = (names, steps + (event[1],))
        elif word == 'drop':
            self.program = (names, tuple(step for k, step in enumerate(steps) if k != event[1]))
        else:
            side = ('low', 'high').index(event[1])
            self.widening = tuple(event[2] if k == side else part for k, part in enumerate(self.widening))
            for phases in self.phases.values():
                phases[side] = 0
        return ''.join(name for name in names if self.ranges[name] != before[name])


def slow_analysis(program, widening, order, most):
    """How many walks the analysis needs, and its result; None if they are more than most."""
    slow = Slow(program, widening)
    for walks in range(most + 1):
        if slow.open_names() == '':
            return walks, slow.now()[0]
        for name in order:
            slow.visit(name)
    return None


def drawn_range(source, ends=(None, -9, -4, -1, 0, 1, 3, 5, 8)):
    low, high = source.choice(ends), source.choice(ends)
    return (high, low) if low is not None and high is not None and low > high else (low, high)


def drawn_step(source, letters, name=None):
    """A step with some of the letters, at this one if there is one; those that make ranges grow are more likely."""
    a, b = name or source.choice(letters), source.choice(letters)
    word = source.choice(('is', 'plus', 'plus', 'plus', 'within', 'within', 'when'))
    if word == 'is':
        low = source.randint(-5, 5)
        return (word, a) + (drawn_range(source) if source.random() < 0.2 else (low, low + source.randint(0, 2)))
    if word == 'plus':
        return word, a, b, source.choice((-3, -1, 0, 1, 1, 2, 4))
    if word == 'within':
        return (word, a, b) + drawn_range(source)
    return (word, a, b) + drawn_range(source) + drawn_range(source)


def drawn_program(source, most_names=4, most_steps=10):
    """A program in which something can come in at each name, mostly."""
    names = ''.join(source.sample(ALPHABET, source.randint(1, most_names)))
    steps = [('is', names[0], 0, source.randint(0, 2))] + [drawn_step(source, names, name) for name in names]
    steps += [drawn_step(source, names) for _ in range(source.randint(0, most_steps - len(steps)))]
    source.shuffle(steps)
    return names, tuple(steps)


RULES = tuple(bent_rules(200, marks=3, phases=3, seed=251, places=range(-6, 10)))


def drawn_widening(source, names):
    widened = ''.join(name for name in names if source.random() < 0.6)
    return source.choice(RULES), source.choice(RULES), widened


def made_analyses(many, seed, most_names=4):
    """Programs with widenings and orders, always the same ones."""
    source = random.Random(seed)
    for _ in range(many):
        program = drawn_program(source, most_names)
        order = ''.join(source.sample(program[0], len(program[0])))
        yield program, drawn_widening(source, program[0]), order


def drawn_event(source, names):
    """An event by form, mostly with letters that are names."""
    letters = names * 6 + 'q' if names else 'q'
    word = source.choice(('visit', 'visit', 'walk', 'walk', 'back', 'back', 'step', 'step', 'drop', 'rule'))
    if word in ('visit', 'back'):
        return word, source.choice(letters)
    if word == 'walk':
        return word, ''.join(source.choices(letters, k=source.randint(0, 4)))
    if word == 'step':
        return word, drawn_step(source, letters)
    if word == 'drop':
        return word, source.choice((0, 0, 1, 2, 3, 5, 9))
    return word, source.choice(('low', 'high')), source.choice(RULES)


RULE = ((), ((('take', 0),) * 3,))
# Values that are by form no events; the first two parts of each are mostly right.
NO_EVENTS = (None, True, 0, 'visit', 'visit a', (), [], ('visit',), ('visit', 'a', 'b'), ['visit', 'a'], ('visit', 'ab'),
             ('visit', ''), ('visit', 'A'), ('visit', '-'), ('visit', 5), ('visit', None), ('visit', ('a',)), ('visit', ['a']),
             ('Visit', 'a'), ('visits', 'a'), (None, 'a'), (True, 'a'), (['visit'], 'a'), (('visit',), 'a'), ('', 'a'), ('a', 'visit'),
             ('walk',), ('walk', 'a', 'b'), ('walk', 'aB'), ('walk', 'a b'), ('walk', '-'), ('walk', 'a\n'), ('walk', None),
             ('walk', ('a', 'b')), ('walk', ['a']), ('walk', 5), ('walk', True), ('back',), ('back', 'ab'), ('back', ''),
             ('back', None), ('back', 0), ('back', 'a', 0), ('step',), ('step', None), ('step', 'is a 0 0'), ('step', ()),
             ('step', ('is', 'a', 0)), ('step', ('is', 'a', 1, 0)), ('step', ['is', 'a', 0, 0]), ('step', ('is', 'ab', 0, 0)),
             ('step', ('is', 'a', True, 1)), ('step', ('is', 'a', 0, 0, 0)), ('step', 'is', 'a', 0, 0), ('step', ('plus', 'a', 'b')),
             ('step', ('plus', 'a', 'b', None)), ('step', ('plus', 'a', 'b', True)), ('step', ('within', 'a', 'b', 3, 2)),
             ('step', ('when', 'a', 'b', 0, 0, 1, 0)), ('step', ('when', 'a', 'b', 0, 0)), ('step', ('was', 'a', 0, 0)),
             ('step', ('is', 'a', 0, 0), 0), ('drop',), ('drop', -1), ('drop', True), ('drop', False), ('drop', None), ('drop', '0'),
             ('drop', (0,)), ('drop', 0, 0), ('rule',), ('rule', 'low'), ('rule', RULE), ('rule', 'low', None), ('rule', 'mid', RULE),
             ('rule', 'Low', RULE), ('rule', '', RULE), ('rule', None, RULE), ('rule', ('low',), RULE), ('rule', 'low', list(RULE)),
             ('rule', 'low', RULE, 0), ('rule', 'low', ((), ())), ('rule', 'low', ((True,), RULE[1])), ('rule', RULE, 'low'),
             ('rule', 'low', ((), ((('take', 1),) * 3,))), ('rule', 'low', ((), ((('take', False),) * 3,))), ('undo',), ('undo', ''),
             ('live', CHAIN, WIDE), ('low', RULE), ('events', ''), ('rules', 'low', RULE), (None, 'low', RULE), ('low', 'low', RULE),
             ('steps', ('is', 'a', 0, 0)), (True, ('is', 'a', 0, 0)), ('is', ('is', 'a', 0, 0)), ('drops', 0), (None, 0))
