"""[57] and [58] Ranges, steps and programs with several names, and what comes in at a name."""

import itertools
import random
import unittest

from endclimbs.errors import InvalidPaper, NotUsable
from endclimbs.programs import incoming_ranges, is_range, is_step, lets_names
from playing import big
from samples import NO_INTEGERS, ODD, Case, changed_at, places_in

FAR = 10 ** 59
CHAIN = ('fgw', (('is', 'f', 5, 5), ('plus', 'g', 'f', 2), ('is', 'w', 0, 0), ('within', 'w', 'f', None, None),
                 ('within', 'w', 'g', None, None)))
STEPS = (('is', 'a', 0, 5), ('is', 'z', None, None), ('plus', 'a', 'b', -3), ('plus', 'c', 'c', 0),
         ('within', 'a', 'b', 0, None), ('within', 'y', 'y', None, 5), ('when', 'a', 'b', 0, 5, None, 3),
         ('when', 'x', 'x', None, None, 7, 7))
RANGES = ((0, 0), (0, 5), (-FAR, FAR), (None, 5), (5, None), (None, None), (-3, -2))
NO_RANGES = ODD + (None, 0, (5, 4), [0, 5], (0,), (0, 5, 6), (True, 5), (0, True), ('0', 5), (0, '5'), (0, ()), ([], 5))
NO_LETTERS = ODD + (None, 0, 'ab', 'A', '', ' ', '1', '{', '`', ['a'], ('a',), 'a\n')


class KindsTest(Case):
    def test_ranges(self):
        for thing in RANGES:
            self.same(is_range(thing), True)
        for thing in NO_RANGES:
            self.same(is_range(thing), False)
        self.same([is_range(thing=(1, 1)), is_range((1, 0)), is_range((None, -FAR)), is_range((FAR, None))],
                  [True, False, True, True])

    def test_steps(self):
        for step in STEPS + CHAIN[1]:
            self.same(is_step(step), True)
            self.same([is_step(list(step)), is_step(step[:-1]), is_step(step + (0,)), is_step(step[1:])], [False] * 4)
        for thing in ODD + (None, 0, ('is',), ('was', 'a', 0, 5), (None, 'a', 0, 5), (['is'], 'a', 0, 5), 'is'):
            self.same(is_step(thing), False)
        self.same(is_step(thing=('is', 'q', 0, 0)), True)

    def test_each_place_of_each_kind_of_step(self):
        for step in STEPS:
            for k in range(1, len(step)):
                name = k == 1 or (k == 2 and step[0] != 'is')
                for thing in NO_LETTERS if name else ODD:
                    if not (isinstance(thing, str) and len(thing) == 1 and thing.islower() and name):
                        self.same(is_step(changed_at(step, (k,), thing)), False)
                self.same(is_step(changed_at(step, (k,), 'q')), name)
                # None is no name, nor is it the c of a plus.
                self.same(is_step(changed_at(step, (k,), None)), not name and step[0] != 'plus')
            for word in ('is', 'plus', 'within', 'when', 'IS', ''):
                if word != step[0]:
                    self.same(is_step((word,) + step[1:]), False)

    def test_steps_with_empty_ranges(self):
        for low, high in ((5, 4), (0, -FAR)):
            for step in (('is', 'a', low, high), ('within', 'a', 'b', low, high), ('when', 'a', 'b', low, high, 0, 0),
                         ('when', 'a', 'b', 0, 0, low, high)):
                self.same(is_step(step), False)


class LetsNamesTest(Case):
    def complains(self, word, at, thing):
        self.fails(InvalidPaper, (word, at), lets_names, thing)

    def test_programs(self):
        self.same([lets_names(CHAIN), lets_names(('', ())), lets_names(('zab', ()))], [5, 0, 0])
        self.same(lets_names(('xyzabc', STEPS)), 8)
        self.same(lets_names(thing=('a', (('is', 'a', 0, 0),) * 30)), 30)

    def test_shape(self):
        for thing in ODD + (None, 0, 'ab', ('a',), ('a', (), ()), ['a', ()], ((), 'a'), (None, ()), (('a',), ()), ([], ())):
            self.complains('shape', -1, thing)
        for steps in ODD + (None, 0, list(CHAIN[1])):
            if not isinstance(steps, tuple):
                self.complains('shape', -1, ('fgw', steps))
        self.complains('shape', -1, ('aa', []))

    def test_names(self):
        for names in ('aa', 'aba', 'A', 'a b', ' ', '-', 'a1', '{', '`', 'ab\n'):
            self.complains('names', -1, (names, ()))
            self.complains('names', -1, (names, (None,)))
        self.same(lets_names(('abcdefghijklmnopqrstuvwxyz', ())), 0)

    def test_steps_and_names_in_turn(self):
        for k in range(len(CHAIN[1])):
            steps = CHAIN[1][:k] + (CHAIN[1][k][:-1],) + CHAIN[1][k + 1:]
            self.complains('step', k, ('fgw', steps))
            for place, thing in ((1, 'q'), (2, 'q')):
                if place == 1 or CHAIN[1][k][0] != 'is':
                    changed = CHAIN[1][:k] + (changed_at(CHAIN[1][k], (place,), thing),) + CHAIN[1][k + 1:]
                    self.complains('name', k, ('fgw', changed))
        self.complains('name', 0, ('a', (('is', 'b', 0, 0), None)))
        self.complains('step', 1, ('a', (('is', 'a', 0, 0), None, ('is', 'b', 0, 0))))
        self.complains('name', 0, ('', (('is', 'a', 0, 0),)))
        # A step that is none is none, whatever its letters are.
        self.complains('step', 0, ('a', (('is', 'b', 5, 0),)))

    def test_each_place_of_a_program(self):
        program = ('xyzabc', STEPS)
        for place in places_in(program):
            if len(place) == 3:
                for thing in ((), [], True, ('a',)):
                    self.complains('step', place[1], changed_at(program, place, thing))


def slow_integers(held, wide=40):
    """The integers of a range in a window, with its bounds as marks of what goes on outside."""
    low, high = held
    return {x for x in range(-wide, wide + 1) if (low is None or x >= low) and x <= big(high)}


def slow_range(integers, wide=40):
    """The least range with these integers of the window; what reaches its edge goes on for ever."""
    if not integers:
        return None
    low, high = min(integers), max(integers)
    return (None if low < -wide + 20 else low), (None if high > wide - 20 else high)


def slow_comes(program, ranges, name):
    names, steps = program
    found = set()
    for word, a, *others in steps:
        if a != name:
            continue
        if word == 'is':
            found |= slow_integers(tuple(others))
            continue
        held = ranges[names.index(others[0])]
        if held is None:
            continue
        integers = slow_integers(held)
        if word == 'plus':
            found |= {x + others[1] for x in integers}
        elif word == 'within':
            found |= integers & slow_integers(tuple(others[1:]))
        elif integers & slow_integers(tuple(others[1:3])):
            found |= slow_integers(tuple(others[3:]))
    return slow_range(found)


class IncomingRangesTest(Case):
    def comes(self, step, held, due):
        self.same(incoming_ranges(('ab', (step,)), (None, held), 'a'), due)

    def test_is(self):
        for held in (None,) + RANGES:
            for low, high in RANGES:
                self.comes(('is', 'a', low, high), held, (low, high))

    def test_plus(self):
        self.comes(('plus', 'a', 'b', 3), None, None)
        for held, due in (((0, 5), (-7, -2)), ((None, 5), (None, -2)), ((5, None), (-2, None)), ((None, None),) * 2):
            self.comes(('plus', 'a', 'b', -7), held, due)
        self.comes(('plus', 'a', 'b', FAR), (FAR, FAR), (2 * FAR, 2 * FAR))

    def test_within(self):
        for held, due in ((None, None), ((0, 9), (2, 5)), ((3, 4), (3, 4)), ((5, 9), (5, 5)), ((6, 9), None), ((0, 1), None),
                          ((None, 1), None), ((None, 2), (2, 2)), ((None, None), (2, 5)), ((5, None), (5, 5)),
                          ((6, None), None)):
            self.comes(('within', 'a', 'b', 2, 5), held, due)
        self.comes(('within', 'a', 'b', None, None), (None, None), (None, None))
        self.comes(('within', 'a', 'b', None, 5), (None, 7), (None, 5))
        self.comes(('within', 'a', 'b', 5, None), (None, 4), None)

    def test_when(self):
        for held, comes in ((None, False), ((5, 9), True), ((6, 9), False), ((None, 2), True), ((None, 1), False),
                            ((5, None), True), ((6, None), False), ((None, None), True)):
            for more in ((7, 7), (None, 0), (None, None)):
                self.comes(('when', 'a', 'b', 2, 5) + more, held, more if comes else None)

    def test_joins(self):
        ranges = ((0, 1), (8, 9), None)
        for steps, due in (((('is', 'a', 3, 4), ('is', 'a', 7, 8)), (3, 8)), ((('is', 'a', 7, 8), ('is', 'a', 3, 4)), (3, 8)),
                           ((('is', 'a', 7, None), ('is', 'a', None, 4)), (None, None)),
                           ((('plus', 'a', 'c', 1), ('is', 'a', 3, 4), ('plus', 'a', 'c', 2)), (3, 4)),
                           ((('plus', 'a', 'b', 1), ('within', 'a', 'b', 0, 3), ('is', 'b', 0, 99)), (9, 10)),
                           ((('plus', 'a', 'a', -1), ('plus', 'a', 'b', 0)), (-1, 9)), ((('is', 'b', 0, 0),), None), ((), None)):
            self.same(incoming_ranges(('abc', steps), ranges, 'a'), due)

    def test_names_at_which_nothing_comes_in(self):
        self.same([incoming_ranges(CHAIN, (None, None, None), name) for name in 'fgw'], [(5, 5), None, (0, 0)])
        self.same([incoming_ranges(CHAIN, ((5, 5), (7, 7), None), name) for name in 'fgw'], [(5, 5), (7, 7), (0, 7)])
        self.same(incoming_ranges(program=('a', ()), ranges=(None,), name='a'), None)

    def test_against_sets_of_integers(self):
        source = random.Random(6)
        ends = (None, -9, -4, 0, 1, 3, 8)
        pairs = [(low, high) for low, high in itertools.product(ends, ends) if low is None or low <= big(high)]
        seen = 0
        for _ in range(3000):
            steps = []
            for _ in range(source.randint(0, 4)):
                a, b = source.choice('abc'), source.choice('abc')
                steps.append(source.choice((('is', a) + source.choice(pairs), ('plus', a, b, source.randint(-5, 5)),
                                            ('within', a, b) + source.choice(pairs),
                                            ('when', a, b) + source.choice(pairs) + source.choice(pairs))))
            program = ('abc', tuple(steps))
            ranges = tuple(source.choice(pairs + [None] * 10) for _ in 'abc')
            for name in 'abc':
                due = slow_comes(program, ranges, name)
                seen += due is not None
                self.same(incoming_ranges(program, ranges, name), due)
        self.assertGreater(seen, 2000)

    def test_values_that_are_none(self):
        good = ((5, 5), None, (None, None))
        for ranges in ODD + (None, 0, (), good[:2], good + (None,), list(good), 'fgw'):
            self.fails(NotUsable, ('ranges', -1), incoming_ranges, CHAIN, ranges, 'f')
            self.fails(NotUsable, ('ranges', -1), incoming_ranges, CHAIN, ranges, 'q')
        for k in range(3):
            for thing in NO_RANGES:
                if thing is not None:
                    self.fails(NotUsable, ('ranges', -1), incoming_ranges, CHAIN, changed_at(good, (k,), thing), 'f')
        for name in NO_LETTERS + NO_INTEGERS + ('fg', 'fgw', 'q', 'x', 0):
            self.fails(NotUsable, ('name', -1), incoming_ranges, CHAIN, good, name)
        self.fails(NotUsable, ('name', -1), incoming_ranges, ('', ()), (), '')
        self.fails(NotUsable, ('name', -1), incoming_ranges, ('', ()), (), 'a')
        self.fails(NotUsable, ('ranges', -1), incoming_ranges, ('', ()), (None,), 'a')


if __name__ == '__main__':
    unittest.main()
