"""[13] The checker of rules."""

import copy
import unittest

from endclimbs.errors import InvalidPaper
from endclimbs.rulechecker import lets_rule
from samples import CAREFUL, JUMPY, ODD, PHASE, RULES, Case, changed_at

TWO = ((1, 4), (PHASE, PHASE))


class RuleCheckerTest(Case):
    def refused(self, thing, word, at):
        before = copy.deepcopy(thing)
        self.fails(InvalidPaper, (word, at), lets_rule, thing)
        self.same(thing, before)

    def test_how_many_phases(self):
        self.same([lets_rule(rule) for rule in RULES], [2, 1, 2, 2])
        self.same(lets_rule(((), (PHASE,) * 7)), 7)
        self.same(lets_rule(thing=TWO), 2)

    def test_shape(self):
        for thing in ODD + (None, 0, (CAREFUL,), CAREFUL + (0,), list(CAREFUL)):
            self.refused(thing, 'shape', -1)

    def test_marks(self):
        for marks in (None, 5, True, 'x', [], [5]):
            self.refused((marks, CAREFUL[1]), 'marks', -1)
        for bad in (True, None, 'x', (), [], 1, 0, -1):
            self.refused(((1, bad, 0), CAREFUL[1]), 'marks', 1)
        for bad in (True, None, 'x', (9,), [9], 4, 3):
            self.refused(((1, 4, bad), CAREFUL[1]), 'marks', 2)
        for bad in (True, None, '5', ()):
            self.refused(((bad,), CAREFUL[1]), 'marks', 0)

    def test_phases(self):
        for phases in (None, (), [], [PHASE], 'x', True, 1):
            self.refused(((5,), phases), 'phases', -1)

    def test_phase(self):
        for phase in ODD + (None, 0, PHASE[:2], PHASE + PHASE[:1], list(PHASE)):
            for i in range(2):
                self.refused(changed_at(TWO, (1, i), phase), 'phase', i)

    def test_case(self):
        pairs = (None, 0, True, (), ('take',), ('take', 0, 0), ['take', 0], ('jump', 0), (0, 0), (None, 0), (['take'], 0))
        pairs += (('take', -1), ('take', True), ('take', None), ('take', '0'), ('take', (0,)), ('', 0), ('jump', 9))
        for i in range(2):
            for k in range(3):
                for pair in pairs:
                    self.refused(changed_at(TWO, (1, i, k), pair), 'case', (i, k))

    def test_next(self):
        for i in range(2):
            for k in range(3):
                for later in (2, 3, 10 ** 50):
                    self.refused(changed_at(TWO, (1, i, k, 1), later), 'next', (i, k))
                self.same(lets_rule(changed_at(TWO, (1, i, k, 1), 1)), 2)

    def test_of_several_faults_the_first_one_is_told(self):
        self.refused(([], ()), 'marks', -1)
        self.refused(((2, 1, True), ()), 'marks', 1)
        self.refused(((5,), ((), ()), 0), 'shape', -1)
        self.refused(((), (PHASE, (), 0)), 'phase', 1)
        self.refused(((), ((('jump', 0), ('take', 9), PHASE[2]), ())), 'case', (0, 0))
        self.refused(((), ((('take', 9), ('jump', 0), PHASE[2]), ())), 'next', (0, 0))
        self.refused(((), ((PHASE[0], ('take', 2), ('jump', 0)), (('jump', 0),) * 3)), 'next', (0, 1))
        self.refused(((), (PHASE, (PHASE[0], PHASE[1], ('take', 3)), ())), 'next', (1, 2))

    def test_no_rule_of_the_examples_is_changed(self):
        before = copy.deepcopy(JUMPY)
        lets_rule(JUMPY)
        self.same(JUMPY, before)


if __name__ == '__main__':
    unittest.main()
