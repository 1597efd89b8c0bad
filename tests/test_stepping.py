"""[32] and [33] Rules played on step programs, and step programs of rows and of rings, with [8]."""

import random
import unittest

from endclimbs.climbing import rounds_of
from endclimbs.errors import NotRising, NotUsable, Restless
from endclimbs.kinds import is_program
from endclimbs.resting import rests_on_steps
from endclimbs.stepping import end_on, incoming, played, program_of, restless_program
from playing import states_by_words
from samples import CAREFUL, JUMPY, NO_INTEGERS, ODD, RULES, TENS, WAITER, Case
from searching import behind, bent_rules, coming, made_programs, slow_incoming, slow_playing, waiting

FAR = 10 ** 40
OUT = ('out', 0)
STEPS = (((None, 0), (0, 5), (3, 7)), 0)
MADE = tuple(bent_rules(150, seed=41))
PROGRAMS = tuple(made_programs(60))
STAYS = ((5,), ((('wait', 0),) * 3,))


def steady_row(rule, source, length=5):
    """A steady row of integers behind which the end does not wait, some of its elements no rounds; None if it waits."""
    row = [source.randint(-2, 9)]
    for _ in range(length):
        state = states_by_words(rule, tuple(row))[-1]
        tries = 0
        while waiting(state):
            row.append(row[-1])
            state = behind(rule, state, row[-1])
            tries += 1
            if tries > 10:
                return None
        row.append(source.randint(row[-1], row[-1] + source.choice((0, 2, 5))))
    while waiting(states_by_words(rule, tuple(row))[-1]):
        row.append(row[-1])
        if len(row) > 60:
            return None
    return tuple(row)


class IncomingTest(Case):
    def test_against_the_words(self):
        for program in PROGRAMS:
            for x in list(range(-4, 14)) + [None, FAR, -FAR]:
                self.same(incoming(program, x), slow_incoming(program, x))

    def test_at_the_edges_of_steps(self):
        self.same([incoming(STEPS, x) for x in (-FAR, -1, 0, 2, 3, FAR, None)], [0, 0, 5, 5, 7, 7, 7])
        with_plus = (STEPS[0], 2)
        self.same([incoming(with_plus, x) for x in (-FAR, -1, 0, 3, 4, 5, 6, None)], [0, 1, 5, 7, 7, 7, 8, None])
        self.same([incoming((((None, FAR),), 60), x) for x in (0, FAR, None)], [FAR, FAR + 60, None])
        self.same(incoming(program=STEPS, x=2), 5)

    def test_values_that_are_none(self):
        for x in ODD:
            self.fails(NotUsable, ('x', -1), incoming, STEPS, x)


class PlayedTest(Case):
    def test_against_the_words(self):
        over = 0
        for rule in MADE + RULES:
            for program in PROGRAMS:
                due = slow_playing(rule, program)
                if due is None:
                    over += 1
                    self.fails(Restless, (200,), played, rule, program)
                    self.fails(Restless, (200,), end_on, rule, program)
                else:
                    self.same((played(rule, program), end_on(rule, program)), due)
        self.assertGreater(over, 300)

    def test_just_enough_rounds_and_one_less(self):
        for rule in MADE:
            for program in PROGRAMS[:20]:
                due = slow_playing(rule, program)
                if due is not None:
                    many = len(due[0]) - 1
                    for most in (many, many + 1, FAR):
                        self.same((played(rule, program, most=most), end_on(rule, program, most=most)), due)
                    if many:
                        self.fails(Restless, (many - 1,), played, rule, program, most=many - 1)
                        self.fails(Restless, (many - 1,), end_on, rule, program, most=many - 1)
                        self.fails(Restless, (0,), played, rule, program, most=0)
        self.same([played(JUMPY, (((None, 7),), 0), most=0), end_on(JUMPY, (((None, 7),), 0), most=0)], [(7,), 7])

    def test_two_hundred_rounds(self):
        takes = ((), ((('take', 0),) * 3,))
        for many, due in ((200, tuple(range(201))), (201, None)):
            program = (tuple([(None, 0)] + [(k, k + 1) for k in range(many)]), 0)
            if due:
                self.same((played(takes, program), end_on(takes, program)), (due, 200))
            else:
                self.fails(Restless, (200,), played, takes, program)
                self.same(end_on(takes, program, most=201), 201)

    def test_endless(self):
        self.same([played(JUMPY, (((None, 6),), 1)), end_on(JUMPY, (((None, 6),), 1))], [(6, 7), None])
        self.same([played(JUMPY, (((None, 0), (0, 6), (6, 6)), 0)), end_on(JUMPY, (((None, 0), (0, 6)), 0))], [(0, 6), None])

    def test_what_never_ends_is_told_for_any_number(self):
        self.fails(Restless, (FAR,), played, TENS, (((None, 10),), 1), most=FAR)
        self.fails(Restless, (FAR,), end_on, STAYS, (((None, 0), (0, 3)), 0), most=FAR)
        self.fails(Restless, (FAR,), end_on, STAYS, (((None, 0),), 60), most=FAR)

    def test_values_that_are_none(self):
        for most in NO_INTEGERS + (-1,):
            for function in (played, end_on):
                self.fails(NotUsable, ('most', -1), function, TENS, (((None, 10),), 1), most=most)
        self.same(end_on(rule=CAREFUL, program=STEPS, most=200), 7)
        with self.assertRaises(TypeError):
            played(CAREFUL, STEPS, 200)


class ProgramOfTest(Case):
    def check(self, rule, row):
        program = program_of(rule, row)
        self.assertTrue(is_program(program))
        self.assertEqual(program[1], 0)
        due = row[:1] + tuple(row[k] for k, _, _ in rounds_of(rule, row))
        self.same(slow_playing(rule, program), (due, states_by_words(rule, row)[-1][1]))
        self.same(played(rule, program), due)

    def test_the_rounds_of_the_row(self):
        source = random.Random(5)
        seen = 0
        for rule in MADE + RULES:
            for _ in range(15):
                row = steady_row(rule, source)
                if row is not None:
                    seen += 1
                    self.check(rule, row)
        self.assertGreater(seen, 1500)

    def test_edges(self):
        for rule in RULES:
            for row in ((0,), (-FAR,), (3, 3, 3)):
                self.check(rule, row)
        self.check(JUMPY, (0, 3, 4, 5, FAR))
        self.check(JUMPY, (0, 3, 6, 7, 7, FAR))
        self.check(TENS, tuple(range(12)))
        self.check(((5,), ((('wait', 1), ('wait', 1), OUT), (('wait', 2),) * 3, (('take', 0),) * 3)), (0, 3, 3, 3, 3, 7))
        self.same(program_of(rule=JUMPY, row=(0,)), (((None, 0),), 0))

    def test_rows_that_are_none(self):
        for row in (None, 0, True, (), [0, 1], (None,), (True, 1), (0, 'x')):
            self.fails(NotUsable, ('row', -1), program_of, CAREFUL, row)
        self.fails(NotRising, (2,), program_of, CAREFUL, (0, 3, 2, None))
        self.fails(NotRising, (2,), program_of, WAITER, (0, None, 2))

    def test_rows_that_are_not_steady(self):
        for k, row in ((1, (0, None)), (2, (0, 8, None)), (3, (0, 3, 8, None, None))):
            self.fails(NotUsable, ('row', k), program_of, CAREFUL, row)
        # Behind 8 the end of JUMPY is endless, and yet None may not stand in the row.
        self.fails(NotUsable, ('row', 2), program_of, JUMPY, (6, 8, None))
        self.fails(NotUsable, ('row', 2), program_of, WAITER, (0, 5, 6))
        self.fails(NotUsable, ('row', 3), program_of, STAYS, (0, 5, 5, 6, 7))
        self.fails(NotUsable, ('row', 2), program_of, WAITER, (0, 5, None))
        self.fails(NotUsable, ('row', 2), program_of, WAITER, (0, 5, 10, None))

    def test_rows_behind_which_the_end_waits(self):
        self.fails(NotUsable, ('row', 2), program_of, WAITER, (0, 5))
        self.fails(NotUsable, ('row', 4), program_of, STAYS, (0, 5, 5, 5))
        self.check(WAITER, (0, 5, 5))

    def test_all_rows_of_a_small_window(self):
        for rule in MADE[:60]:
            rows = [(first,) for first in (0, 4)]
            while rows and len(rows[0]) < 5:
                rows = [row + (y,) for row in rows for y in (1, 4, 5, 8) if y >= row[-1]]
                for row in rows:
                    states = states_by_words(rule, row)
                    unsteady = [k for k in range(1, len(row)) if waiting(states[k - 1]) and row[k] != row[k - 1]]
                    if unsteady:
                        self.fails(NotUsable, ('row', unsteady[0]), program_of, rule, row)
                    elif waiting(states[-1]):
                        self.fails(NotUsable, ('row', len(row)), program_of, rule, row)
                    else:
                        self.check(rule, row)


class RestlessProgramTest(Case):
    def judge(self, rule):
        program = restless_program(rule)
        self.assertEqual(program is None, rests_on_steps(rule))
        if program is not None:
            self.assertTrue(is_program(program))
            self.assertIsNone(slow_playing(rule, program, 600))
            self.fails(Restless, (300,), played, rule, program, most=300)

    def test_told_programs_go_on(self):
        for rule in MADE + RULES + tuple(bent_rules(60, marks=5, phases=6, seed=42)):
            self.judge(rule)

    def test_marks_of_any_size(self):
        for rule in bent_rules(60, seed=43):
            for marks in ((), (FAR,), (-FAR, 0, 1), (0, FAR)):
                self.judge((marks, rule[1]))

    def test_where_it_rests_all_programs_end(self):
        for rule in MADE:
            if restless_program(rule) is None:
                for program in PROGRAMS:
                    self.assertIsNotNone(slow_playing(rule, program))

    def test_each_kind(self):
        self.same([restless_program(rule) for rule in (CAREFUL, JUMPY, WAITER)], [None] * 3)
        self.judge(TENS)
        for case in range(3):
            for marks in ((5, 9), ()):
                self.judge((marks, (tuple(('wait', 0) if k == case else OUT for k in range(3)),)))
        # The ring behind the mark needs what waits to come in again, and plus to go on.
        self.judge(((5,), ((OUT, ('take', 1), OUT), (('wait', 2), OUT, OUT), (('take', 1), OUT, OUT))))
        # The way to the ring takes the very integers 1 and 2, and 2 comes in at 1 as the mark above it.
        narrow = ((0, 2), ((OUT, ('take', 1), OUT), (('take', 2), OUT, OUT), (OUT, ('take', 3), OUT), (('take', 3), OUT, OUT)))
        self.judge(narrow)
        self.same(restless_program(rule=JUMPY), None)


class SteadyTest(Case):
    def test_what_comes_in_on_a_program_is_steady(self):
        for rule in MADE[:60]:
            for program in PROGRAMS:
                found = slow_playing(rule, program)
                if found is not None:
                    states = states_by_words(rule, found[0])
                    for k in range(1, len(found[0])):
                        self.assertIn(found[0][k], coming(states[k - 1], (found[0][k],), steady=True))


if __name__ == '__main__':
    unittest.main()
