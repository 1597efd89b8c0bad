"""[14] and [15] Changed rules, and that changes are taken back."""

import unittest

from endclimbs.errors import NotUsable
from endclimbs.kinds import is_rule
from endclimbs.rulechanges import shifted, with_mark, with_marks, with_pair, with_phase, without_mark, without_phase
from samples import CAREFUL, CASES, JUMPY, MOVES, NO_INTEGERS, ODD, PHASE, RULES, TENS, Case

THREE = ((2, 5, 9), (
    (('take', 0), ('next', 1), ('out', 2)),
    (('wait', 2), ('take', 1), ('next', 0)),
    (('out', 1), ('wait', 2), ('take', 0)),
))
NEW = (('next', 3), ('wait', 0), ('take', 2))


class RuleChangesTest(Case):
    def unusable(self, name, function, *args, **named):
        self.fails(NotUsable, (name, -1), function, *args, **named)

    def test_with_mark(self):
        self.same(with_mark(THREE, 1), ((1, 2, 5, 9), THREE[1]))
        self.same(with_mark(THREE, 6), ((2, 5, 6, 9), THREE[1]))
        self.same(with_mark(THREE, 10 ** 40), ((2, 5, 9, 10 ** 40), THREE[1]))
        self.same(with_mark(((), THREE[1]), -4), ((-4,), THREE[1]))
        for mark in NO_INTEGERS + (2, 5, 9):
            self.unusable('mark', with_mark, THREE, mark)

    def test_without_mark(self):
        self.same(without_mark(THREE, 2), ((5, 9), THREE[1]))
        self.same(without_mark(THREE, 5), ((2, 9), THREE[1]))
        self.same(without_mark(THREE, 9), ((2, 5), THREE[1]))
        self.same(without_mark(JUMPY, mark=5), ((), JUMPY[1]))
        for mark in NO_INTEGERS + (1, 3, 10, -2):
            self.unusable('mark', without_mark, THREE, mark)
        self.unusable('mark', without_mark, ((1,), JUMPY[1]), True)
        self.unusable('mark', without_mark, ((), JUMPY[1]), 0)
        self.same(with_mark(((0,), JUMPY[1]), 1), ((0, 1), JUMPY[1]))

    def test_with_marks(self):
        for marks in ((), (0,), (-3, 7), THREE[0]):
            self.same(with_marks(THREE, marks), (marks, THREE[1]))
        for marks in (None, 5, True, 'x', [], [1], (1, 1), (2, 1), (True,), (None,), (1, 'x')):
            self.unusable('marks', with_marks, THREE, marks)

    def test_shifted(self):
        self.same(shifted(THREE, 0), THREE)
        self.same(shifted(THREE, 3), ((5, 8, 12), THREE[1]))
        self.same(shifted(THREE, -5), ((-3, 0, 4), THREE[1]))
        self.same(shifted(((), THREE[1]), 7), ((), THREE[1]))
        for by in NO_INTEGERS:
            self.unusable('by', shifted, THREE, by)

    def test_with_phase(self):
        first = ((('take', 1), ('next', 2), ('out', 3)), (('wait', 3), ('take', 2), ('next', 1)))
        self.same(with_phase(THREE, NEW, at=0)[1], (NEW,) + first + ((('out', 2), ('wait', 3), ('take', 1)),))
        middle = (('take', 0), ('next', 1), ('out', 3)), (('wait', 3), ('take', 1), ('next', 0))
        self.same(with_phase(THREE, NEW, at=2)[1], middle + (NEW, (('out', 1), ('wait', 3), ('take', 0))))
        for result in (with_phase(THREE, NEW), with_phase(THREE, NEW, at=None), with_phase(THREE, phase=NEW, at=3)):
            self.same(result, (THREE[0], THREE[1] + (NEW,)))

    def test_with_phase_refuses(self):
        for phase in ODD + (None, 0, NEW[:2], NEW + NEW[:1], list(NEW), (NEW[0], NEW[1], ('jump', 0))):
            self.unusable('phase', with_phase, THREE, phase)
        for k in range(3):
            phase = NEW[:k] + (('take', 4),) + NEW[k + 1:]
            self.unusable('phase', with_phase, THREE, phase)
            self.unusable('phase', with_phase, THREE, phase, at=0)
        for at in ODD + (-1, 4, 5):
            self.unusable('at', with_phase, THREE, NEW, at=at)
        self.unusable('phase', with_phase, THREE, (), at=-1)
        with self.assertRaises(TypeError):
            with_phase(THREE, NEW, 0)

    def test_without_phase(self):
        self.same(without_phase(THREE, 0), (THREE[0], (
            (('wait', 1), ('take', 0), ('next', 0)), (('out', 0), ('wait', 1), ('take', 0)))))
        self.same(without_phase(THREE, 1), (THREE[0], (
            (('take', 0), ('next', 0), ('out', 1)), (('out', 0), ('wait', 1), ('take', 0)))))
        self.same(without_phase(THREE, index=2), (THREE[0], (
            (('take', 0), ('next', 1), ('out', 0)), (('wait', 0), ('take', 1), ('next', 0)))))
        for index in NO_INTEGERS + (-1, 3, 4):
            self.unusable('index', without_phase, THREE, index)
        for index in (0, 1, -1, None):
            self.unusable('index', without_phase, JUMPY, index)

    def test_with_pair(self):
        for phase in range(3):
            for k, case in enumerate(CASES):
                for move in MOVES:
                    due = [[list(pair) for pair in old] for old in THREE[1]]
                    due[phase][k] = [move, 2]
                    phases = tuple(tuple(tuple(pair) for pair in old) for old in due)
                    self.same(with_pair(THREE, phase, case, move, 2), (THREE[0], phases))

    def test_with_pair_refuses(self):
        for index in NO_INTEGERS + (-1, 3, 4):
            self.unusable('phase', with_pair, THREE, index, 'near', 'take', 0)
            self.unusable('later', with_pair, THREE, 0, 'near', 'take', index)
        for word in (None, 0, 1, True, '', 'Near', 'fa', 'atfar', ('near',), ['near']):
            self.unusable('case', with_pair, THREE, 0, word, 'take', 0)
            self.unusable('move', with_pair, THREE, 0, 'near', word, 0)
        self.unusable('case', with_pair, THREE, 0, 'take', 'take', 0)
        self.unusable('move', with_pair, THREE, 0, 'near', 'near', 0)

    def test_of_several_faults_the_first_parameter_is_told(self):
        self.unusable('phase', with_pair, THREE, True, 'x', 'x', -1)
        self.unusable('case', with_pair, THREE, 0, 'x', 'x', -1)
        self.unusable('move', with_pair, THREE, 0, 'at', 'x', -1)
        self.unusable('later', with_pair, rule=THREE, phase=0, case='at', move='out', later=3)

    def test_changes_are_taken_back(self):
        for rule in RULES + (THREE,):
            for mark in (-1, 3, 7, 12):
                self.same(without_mark(with_mark(rule, mark), mark), rule)
            for by in (-10, 0, 1, 10 ** 50):
                self.same(shifted(shifted(rule, by), -by), rule)
            for at in range(len(rule[1]) + 1):
                phase = (('take', at), ('wait', 0), ('out', len(rule[1])))
                changed = with_phase(rule, phase, at=at)
                self.assertTrue(is_rule(changed))
                self.same(changed[1][at], phase)
                self.same(without_phase(changed, at), rule)

    def test_what_is_passed_stays_as_it_is(self):
        before = repr((THREE, NEW, TENS, CAREFUL, PHASE))
        with_mark(THREE, 3), without_mark(THREE, 5), shifted(THREE, 4), with_marks(THREE, ()), without_phase(THREE, 1)
        with_phase(THREE, NEW, at=1), with_pair(THREE, 0, 'at', 'out', 1)
        self.assertEqual(repr((THREE, NEW, TENS, CAREFUL, PHASE)), before)


if __name__ == '__main__':
    unittest.main()
