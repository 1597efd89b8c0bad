"""[12] The kinds of values, by [2] to [9]."""

import unittest

from endclimbs import kinds
from endclimbs.kinds import is_end, is_ends, is_integer, is_marks, is_number, is_phase
from endclimbs.kinds import is_program, is_row, is_rule, is_span
from samples import ODD, PHASE, RULES, Case, at_place, changed_at, places_in

BIG = 10 ** 59
ALL = (is_integer, is_number, is_end, is_ends, is_row, is_marks, is_phase, is_rule, is_program, is_span)
STEPS = (((None, 0), (0, 5), (3, 7)), 0)


class KindsTest(Case):
    def tell(self, function, due, things):
        for thing in things:
            with self.subTest(function=function.__name__, thing=thing):
                self.same(function(thing), due)

    def test_integers_and_numbers(self):
        self.tell(is_integer, True, (0, 1, -1, BIG, -BIG))
        self.tell(is_integer, False, ODD + (None,))
        self.tell(is_number, True, (0, 1, 7, BIG))
        self.tell(is_number, False, ODD + (None, -1, -BIG))

    def test_ends(self):
        self.tell(is_end, True, (0, 1, -1, BIG, -BIG, None))
        self.tell(is_end, False, ODD)
        self.tell(is_ends, True, ((), (0,), (None,), (3, -1, None, 2), (None, None)))
        self.tell(is_ends, False, (None, 1, True, 'x', [], [1], (True,), (1, False), (None, 'x'), (1, ()), ((1,),), ([],)))

    def test_rows(self):
        self.tell(is_row, True, ((0,), (-3,), (0, 0), (0, 1, 1, 5), (0, None), (0, None, None), (-5, -4, BIG)))
        self.tell(is_row, False, ((), None, 0, [0], [0, 1], (None,), (None, None), (True,), (0, True), (0, 1, 'x')))
        self.tell(is_row, False, ((1, 0), (0, 5, 4), (0, None, 5), (0, 1, 2, 1), (0, (1,)), (0, 1, 1, 0, 9), ('x', 5)))

    def test_marks(self):
        self.tell(is_marks, True, ((), (0,), (-2, 0, 7), (-BIG, BIG)))
        self.tell(is_marks, False, (None, 0, [], [1], (1, 1), (2, 1), (0, 3, 2), (0, 3, 3), (True,), (0, True)))
        self.tell(is_marks, False, ((None,), (0, None), ('x',), ((1, 2),), (False, 1), 'x', True))

    def test_phases(self):
        self.tell(is_phase, True, (PHASE, (('wait', 7), ('wait', BIG), ('take', 1))))
        self.tell(is_phase, False, ODD + (None, PHASE[:2], PHASE + PHASE[:1], list(PHASE)))

    def test_phases_with_a_wrong_place(self):
        for k in range(3):
            self.tell(is_phase, False, [changed_at(PHASE, (k,), pair) for pair in ODD + (None, 0)])
            pairs = (('take',), ('take', 0, 0), ['take', 0], (0, 'take'), ('take', -1), ('take', True), ('take', None))
            self.tell(is_phase, False, [changed_at(PHASE, (k,), pair) for pair in pairs])
            moves = ('jump', 'Take', '', 'tak', 'taken', 'near', 0, None, True, ('take',), ['take'])
            self.tell(is_phase, False, [changed_at(PHASE, (k, 0), move) for move in moves])

    def test_rules(self):
        self.tell(is_rule, True, RULES + (((), (PHASE,)), ((1, 2), (PHASE, PHASE))))
        self.tell(is_rule, False, ODD + (None, ((), ()), ((5,),), ((5,), PHASE), ((5,), [PHASE]), ([5], (PHASE,))))
        self.tell(is_rule, False, [[(5,), (PHASE,)], ((5,), (PHASE,), 0), ((5, 5), (PHASE,)), ((True,), (PHASE,))])
        self.tell(is_rule, False, ((None, (PHASE,)), ((), (PHASE, ())), ((), None), ((), (list(PHASE),))))

    def test_nexts_of_a_rule_are_indexes_of_its_phases(self):
        for phases in ((PHASE,), (PHASE, PHASE), (PHASE, PHASE, PHASE)):
            for i in range(len(phases)):
                for k in range(3):
                    for later in range(len(phases) + 2):
                        thing = ((), changed_at(phases, (i, k, 1), later))
                        self.same(is_rule(thing), later < len(phases))

    def test_programs(self):
        self.tell(is_program, True, (STEPS, (((None, -3),), 0), (((None, 0),), 7), (((None, 5), (-9, 5)), 0)))
        self.tell(is_program, False, ODD + (None, STEPS[0], (STEPS[0],), STEPS + (0,), list(STEPS), ((), 0)))
        self.tell(is_program, False, [(STEPS[0], plus) for plus in (-1, True, None, 'x', (), [])])
        self.tell(is_program, False, [(list(STEPS[0]), 0), (None, 0), (0, 0), (((0, 0),), 0), (((None, None),), 0)])

    def test_pairs_of_a_program(self):
        for c in ODD + (None, 0, -1):
            self.same(is_program((((None, 0), (0, 5), (c, 7)), 0)), False)
        for d in ODD + (None, 4, -9):
            self.same(is_program((((None, 0), (0, 5), (3, d)), 0)), False)
        for first in ODD:
            self.same(is_program((((first, 0),), 0)), False)
            self.same(is_program((((None, first),), 0)), False)
        self.same(is_program((((None, 0), (None, 5)), 0)), False)
        self.same(is_program((((None, 5), (0, 4)), 0)), False)
        for pair in ODD + ((0,), (0, 5, 5), [0, 5]):
            self.same(is_program((((None, 0), pair), 0)), False)

    def test_spans(self):
        self.tell(is_span, True, ((0, 0), (-3, 5), (0, BIG)))
        self.tell(is_span, False, ODD + (None, (1, 0), (0,), (0, 1, 2), [0, 1], (0, None), (None, 0), (None, None)))
        self.tell(is_span, False, ((False, 1), (0, True), ('a', 'b'), ((), ())))

    def test_a_true_or_a_list_at_each_place(self):
        kinds_of = ((is_ends, (0, 1)), (is_row, (0, 1)), (is_marks, (0, 1)), (is_phase, PHASE), (is_span, (0, 1)))
        for function, thing in kinds_of + ((is_rule, RULES[0]), (is_program, STEPS)):
            self.same(function(thing), True)
            self.same(function(list(thing)), False)
            for place in places_in(thing):
                inner = at_place(thing, place)
                self.same(function(changed_at(thing, place, True)), False)
                self.same(function(changed_at(thing, place, [])), False)
                if isinstance(inner, tuple):
                    self.same(function(changed_at(thing, place, list(inner))), False)

    def test_every_kind_accepts_any_value(self):
        for function in ALL:
            for thing in ODD + (None, 0, -1, [[]], [(), [1]], ((((),),),), ([], []), ({}.keys(),)):
                self.assertIn(function(thing), (True, False))

    def test_the_functions_stand_in_the_module(self):
        for function in ALL:
            self.assertEqual(function.__module__, 'endclimbs.kinds')
        self.assertTrue(kinds.is_span(thing=(0, 1)))


if __name__ == '__main__':
    unittest.main()
