"""[55] and [56] Two rules side by side as an object."""

import random
import unittest

from endclimbs.alikeness import are_alike
from endclimbs.duels import Duel
from endclimbs.endvalues import End
from endclimbs.errors import InvalidPaper, NotRising, NotUsable
from endclimbs.kinds import is_row
from endclimbs.rules import Rule
from playing import made_rows, states_by_words
from samples import CAREFUL, JUMPY, ODD, PHASE, RULES, WAITER, Case
from searching import bent_rules
from twins import WAYS, changed

FAR = 10 ** 40
LEAPING = ((5,), ((('next', 0), ('next', 0), ('out', 0)),))
NO_RULES = ((None, 'shape', -1), (True, 'shape', -1), (list(JUMPY), 'shape', -1), ((), 'shape', -1), (Rule.of(JUMPY), 'shape', -1),
            (('x', JUMPY[1]), 'marks', -1), (([5], JUMPY[1]), 'marks', -1), (((5, 5), JUMPY[1]), 'marks', 1),
            (((True,), JUMPY[1]), 'marks', 0), (((5,), ()), 'phases', -1), (((5,), [PHASE]), 'phases', -1),
            (((5,), (PHASE, 0)), 'phase', 1), (((5,), ((('take', 0), ('take', True), ('out', 0)),)), 'case', (0, 1)),
            (((5,), (PHASE, (('take', 0), ('jump', 0), ('out', 9)))), 'case', (1, 1)),
            (((5,), ((('take', 0), ('take', 0), ('out', 1)),)), 'next', (0, 2)))


def pairs(many, seed):
    source = random.Random(seed)
    for rule in bent_rules(many, marks=4, seed=seed):
        yield rule, source.choice((changed, changed) + WAYS)(rule, source)


class DuelTest(Case):
    def test_likeness_and_parting(self):
        seen = {True: 0, False: 0}
        for rule, other in tuple(pairs(120, 241)) + tuple((one, two) for one in RULES for two in RULES):
            duel = Duel(rule, other)
            self.assertIs(type(duel), Duel)
            self.same(duel.likeness, are_alike(rule, other))
            self.same(duel.parting is None, duel.likeness)
            seen[duel.likeness] += 1
            if not duel.likeness:
                self.assertTrue(is_row(duel.parting))
                self.same(duel.parting in duel, True)
                self.same(duel.parting[:-1] in duel, False)
                ends = duel(duel.parting)
                self.assertNotEqual(ends[0][-1], ends[1][-1])
                self.assertEqual(ends[0][:-1], ends[1][:-1])
        self.assertGreater(min(seen.values()), 30)
        self.same([Duel(JUMPY, LEAPING).likeness, Duel(rule=CAREFUL, other=JUMPY).likeness], [True, False])

    def test_ends_of_both(self):
        rows = tuple(made_rows(25))
        for rule, other in pairs(40, 242):
            duel = Duel(rule, other)
            for row in rows:
                due = tuple(tuple(end for _, end, _ in states_by_words(one, row)) for one in (rule, other))
                self.same(duel(row), due)
                self.same(row in duel, due[0][-1] != due[1][-1])
        self.same(Duel(CAREFUL, JUMPY)(row=(0, 1, 2)), ((0, 1, None), (0, 5, 5)))

    def test_errors_of_a_row(self):
        duel = Duel(CAREFUL, JUMPY)
        for row in ODD + (None, 0, [0, 1], (None, 1), (0, 'x'), (0, True), (End(0),), End(0), Rule.of(JUMPY), (5, 4, 'x')):
            if row != (5,):
                self.fails(NotUsable, ('row', -1), duel, row)
        self.same(duel((5,)), ((5,), (5,)))
        for row, at in (((1, 0), 1), ((0, 4, 3), 2), ((0, None, 5), 2), ((0, 5, 4, 3), 2)):
            self.fails(NotRising, (at,), duel, row)

    def test_in_with_values_of_all_kinds(self):
        duel = Duel(CAREFUL, JUMPY)
        self.same([(0, 1) in duel, (0, 5) in duel, (0,) in duel, (0, 1, 2) in duel, (0, None) in duel, (0, 1, 5) in duel],
                  [True, False, False, True, False, False])
        for thing in ODD + (None, 0, 1, [0, 1], (0, True), (False, 1), (1, 0), (None, 1), (0, 1, 0), CAREFUL, (End(0), 1), duel):
            self.same(thing in duel, False)
        # At an element ahead the ends are unlike, behind the last one no more.
        self.same([(0, 1, 5) in duel, (0, 1) in duel], [False, True])
        self.same((0, 1) in Duel(JUMPY, JUMPY), False)

    def test_values_that_are_no_rules(self):
        for thing, word, at in NO_RULES:
            self.fails(InvalidPaper, (word, at), Duel, thing, CAREFUL)
            self.fails(InvalidPaper, (word, at), Duel, CAREFUL, thing)
            for other, _, _ in NO_RULES:
                self.fails(InvalidPaper, (word, at), Duel, thing, other)
        for thing in ODD:
            self.fails(InvalidPaper, ('shape', -1), Duel, thing, None)

    def test_turned(self):
        for rule, other in pairs(30, 243):
            duel = Duel(rule, other)
            turned = duel.turned()
            self.assertIs(type(turned), Duel)
            self.same([turned == Duel(other, rule), turned == duel, turned.turned() == duel], [True, rule == other, True])
            self.same(turned.likeness, duel.likeness)
            row = (0, 1, 3, 8, None)
            self.same(turned(row), duel(row)[::-1])

    def test_equal(self):
        duels = [(one, two, Duel(one, two)) for one in RULES for two in RULES]
        for one, two, duel in duels:
            for three, four, another in duels:
                self.same([duel == another, duel != another], [(one, two) == (three, four), (one, two) != (three, four)])
            for thing in ODD + (None, 0, (one, two), one, Rule.of(one), End(0)):
                self.same([duel == thing, thing == duel, duel != thing], [False, False, True])
        # Alike is not equal.
        self.same(Duel(JUMPY, WAITER) == Duel(LEAPING, WAITER), False)

    def test_never_changes(self):
        duel = Duel(CAREFUL, JUMPY)
        (duel((0, 1)), (0, 1) in duel, duel.turned(), duel.likeness, duel.parting, duel == 5)
        for name in ('likeness', 'parting'):
            with self.assertRaises(AttributeError):
                setattr(duel, name, None)
        self.same([duel.likeness, duel == Duel(CAREFUL, JUMPY), duel((0, 1, 2))], [False, True, ((0, 1, None), (0, 5, 5))])

    def test_marks_of_any_size(self):
        duel = Duel(((5, FAR), ((('take', 0), ('take', 0), ('take', 0)),)), ((5, FAR), ((('take', 0), ('next', 0), ('out', 0)),)))
        self.same([duel.likeness, duel.turned().likeness, len(duel.parting)], [False, False, 2])

    def test_methods_stand_in_the_class(self):
        for name in ('__init__', '__call__', '__eq__', '__contains__', 'likeness', 'parting', 'turned'):
            self.assertIn(name, vars(Duel))


if __name__ == '__main__':
    unittest.main()
