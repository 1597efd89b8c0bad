"""[24], [25] and [26] States, ends and rounds on rows, and the settled end, with [5] to [7] and [11]."""

import types
import unittest

from endclimbs.casing import case_of
from endclimbs.climbing import ends_of, moved, rounds_of, settled_end, state_of, states_of_row
from endclimbs.errors import NotRising, NotUsable, Restless
from playing import CASES, big, case_by_words, made_rows, made_rules, round_by_words, states_by_words
from samples import CAREFUL, JUMPY, MOVES, ODD, RULES, TENS, WAITER, Case

NO_ROWS = (None, 0, True, 'x', (), [], [0], [0, 1], (None,), (None, 5), (True,), (0, True), (0, 'x'), (0, (1,)), (0, 5, []))
OF_ROWS = (states_of_row, state_of, ends_of, rounds_of, settled_end)
MADE = tuple(made_rules(150))
ROWS = tuple(made_rows(60))
STAYS = ((), ((('wait', 0),) * 3,))


def all_ends(rule, row):
    return tuple(ends_of(rule, row))


def only(move, marks=(5, 9)):
    """The rule with one phase and one move."""
    return marks, (((move, 0),) * 3,)


class MovedTest(Case):
    def test_each_move_in_each_case(self):
        ends = {'take': (7, 9, 12, None), 'next': (9, 9, None, None), 'out': (None,) * 4, 'wait': (6,) * 4}
        for move in MOVES:
            for y, end in zip((7, 9, 12, None), ends[move]):
                last = y if move == 'wait' else end
                self.same(moved(only(move), (0, 6, 6), y), (0, end, last))

    def test_each_move_in_the_outer_gap(self):
        for y in (10, 10 ** 59, None):
            self.same(moved(only('take'), (0, 9, 9), y), (0, y, y))
            self.same(moved(only('next'), (0, 9, 9), y), (0, None, None))
            self.same(moved(only('wait'), (0, 9, 9), y), (0, 9, y))
        self.same(moved(only('next', ()), (0, 9, 9), 10), (0, None, None))

    def test_next_goes_to_the_least_mark_that_is_at_least_y(self):
        rule = only('next', (0, 5, 6, 9))
        due = ((1, 5), (4, 5), (5, 5), (6, 6), (7, 9), (9, 9), (10, None), (None, None))
        for y, end in due:
            self.same(moved(rule, (0, 0, 0), y), (0, end, end))

    def test_what_is_at_most_the_end_changes_nothing(self):
        for rule in MADE[:40]:
            for phase in range(len(rule[1])):
                for y in (4, 3, -10 ** 59):
                    self.same(moved(rule, (phase, 4, 4), y), (phase, 4, 4))
                for y in (None, 0, 10 ** 59):
                    self.same(moved(rule, (phase, None, None), y), (phase, None, None))

    def test_each_state(self):
        ends = (-3, 0, 3, 5, 8, 10, None)
        for rule in MADE:
            for phase in range(len(rule[1])):
                for end in ends:
                    for last in [last for last in ends if big(last) >= big(end)]:
                        for y in [y for y in (-4, 0, 2, 5, 6, 9, 11, None) if last == end or big(y) >= big(last)]:
                            later, reached = round_by_words(rule, phase, end, y)
                            due = (later, reached, y if big(y) > big(reached) else reached)
                            self.same(moved(rule, (phase, end, last), y), due)

    def test_waiting(self):
        self.same(moved(WAITER, (1, 0, 5), 5), (0, None, None))
        self.same(moved(WAITER, (1, 0, 5), 10), (1, 0, 10))
        self.same(moved(STAYS, (0, 0, 5), 5), (0, 0, 5))
        self.same(moved(STAYS, (0, 0, 5), None), (0, 0, None))
        self.same(moved(STAYS, (0, 0, None), None), (0, 0, None))
        for y in (4, 0, -1):
            self.fails(NotUsable, ('y', -1), moved, STAYS, (0, 0, 5), y)
        for y in (5, 10 ** 59, -3):
            self.fails(NotUsable, ('y', -1), moved, STAYS, (0, 0, None), y)

    def test_values_that_are_none(self):
        states = ODD + (None, 0, (0, 0), (0, 0, 0, 0), [0, 0, 0], (2, 0, 0), (-1, 0, 0), (True, 0, 0), (None, 0, 0))
        states += (('0', 0, 0), (0, True, 5), (0, 'x', 5), (0, 0, False), (0, 0, 'x'), (0, 5, 4), (0, None, 5), (0, 0, ()))
        for state in states:
            self.fails(NotUsable, ('state', -1), moved, CAREFUL, state, 5)
            self.fails(NotUsable, ('state', -1), moved, CAREFUL, state, True)
        self.fails(NotUsable, ('state', -1), moved, JUMPY, (1, 0, 0), 5)
        for y in ODD:
            self.fails(NotUsable, ('y', -1), moved, CAREFUL, (1, 0, 0), y)
            self.fails(NotUsable, ('y', -1), moved, CAREFUL, (1, None, None), y)
        self.same(moved(rule=CAREFUL, state=(1, 0, 0), y=5), (0, 5, 5))


class RowsTest(Case):
    def test_the_examples_of_the_text(self):
        self.same([all_ends(CAREFUL, (0, 1, 2)), all_ends(JUMPY, (0, 1, 2))], [(0, 1, None), (0, 5, 5)])
        self.same(len(rounds_of(TENS, tuple(range(12)))), 11)
        self.same(all_ends(TENS, tuple(range(12))), tuple(range(11)) + (None,))
        self.same(all_ends(TENS, (10, 11, 15, 10 ** 59)), (10, 11, 15, 10 ** 59))

    def test_states_and_ends(self):
        for rule in MADE + RULES:
            for row in ROWS:
                due = states_by_words(rule, row)
                self.same(states_of_row(rule, row), due)
                self.same(state_of(rule, row), due[-1])
                self.same(all_ends(rule, row), tuple(end for _, end, _ in due))

    def test_states_follow_by_moved(self):
        for rule in MADE[:60]:
            for row in ROWS:
                state = (0, row[0], row[0])
                for k, due in enumerate(states_of_row(rule, row)):
                    state = moved(rule, state, row[k])
                    self.same(state, due)

    def test_a_row_of_one_element(self):
        for rule in RULES:
            for first in (0, 10, -10 ** 59):
                self.same(states_of_row(rule, (first,)), ((0, first, first),))
                self.same(all_ends(rule, (first,)), (first,))
                self.same(rounds_of(rule, (first,)), ())
                self.same(settled_end(rule, (first,)), first)

    def test_long_rows(self):
        row = tuple(range(2000))
        self.same(state_of(STAYS, row), (0, 0, 1999))
        self.same(len(rounds_of(STAYS, row)), 1999)
        self.same(len(list(ends_of(rule=TENS, row=row))), 2000)

    def test_ends_of_is_a_generator(self):
        self.assertIsInstance(ends_of(CAREFUL, (0, 1)), types.GeneratorType)
        late = ends_of(CAREFUL, (1, 0))
        self.fails(NotRising, (1,), next, late)
        self.fails(NotUsable, ('row', -1), next, ends_of(CAREFUL, ()))

    def test_rounds(self):
        for rule in MADE + RULES:
            for row in ROWS:
                states = states_by_words(rule, row)
                due = []
                for k in range(1, len(row)):
                    phase, end, _ = states[k - 1]
                    case = None if end is None else case_by_words(rule[0], end, row[k])
                    if case is not None:
                        due.append((k, case, rule[1][phase][CASES.index(case)][0]))
                self.same(rounds_of(rule, row), tuple(due))

    def test_rows_that_are_none(self):
        for function in OF_ROWS:
            for row in NO_ROWS:
                self.fails(NotUsable, ('row', -1), function, CAREFUL, row)
            for row, index in (((1, 0), 1), ((0, 5, 5, 4, 3), 3), ((0, None, 5), 2), ((3, 3, 2, None), 2)):
                self.fails(NotRising, (index,), function, CAREFUL, row)
            self.fails(NotUsable, ('row', -1), function, CAREFUL, (5, 4, True))


class SettledEndTest(Case):
    def test_against_many_elements_more(self):
        restless = 0
        for rule in MADE + RULES:
            for row in ROWS:
                _, end, last = states_by_words(rule, row + (row[-1],) * 40)[-1]
                if last == end:
                    self.same(settled_end(rule, row), end)
                else:
                    restless += 1
                    self.fails(Restless, (len(rule[1]),), settled_end, rule, row)
        self.assertGreater(restless, 50)

    def test_as_many_waits_as_phases_can_be_needed(self):
        for many in range(1, 9):
            waits = tuple((('wait', k + 1),) * 3 for k in range(many))
            for move, end in (('take', 7), ('next', 9), ('out', None)):
                rule = ((5, 9), waits + (((move, 0),) * 3,))
                self.same(settled_end(rule, (6, 7)), end)
                self.same(settled_end(rule, (6, 7, 7)), end)
            ring = ((5, 9), waits[:-1] + ((('wait', 0),) * 3,))
            self.fails(Restless, (many,), settled_end, ring, (6, 7))
            self.fails(Restless, (many,), settled_end, ring, (6, None))

    def test_endless(self):
        self.same(settled_end(JUMPY, (0, None)), None)
        self.same(settled_end(JUMPY, (0, 6)), None)
        self.same(settled_end(rule=JUMPY, row=(0, 1)), 5)
        self.fails(Restless, (1,), settled_end, STAYS, (0, None))


class ConsequencesTest(Case):
    def test_ends_rise_and_the_settled_end_is_at_least_the_last_element(self):
        for rule in MADE:
            for row in ROWS:
                ends = [big(end) for end in ends_of(rule, row)]
                self.assertEqual(ends, sorted(ends))
                try:
                    self.assertGreaterEqual(big(settled_end(rule, row)), big(row[-1]))
                except Restless as error:
                    self.assertEqual(error.rounds, len(rule[1]))

    def test_while_an_end_waits_no_element_is_idle_and_cases_never_go_back(self):
        seen = 0
        for rule in MADE:
            for row in ROWS:
                states = states_of_row(rule, row)
                rounds = {k: case for k, case, _ in rounds_of(rule, row)}
                for k in range(1, len(row)):
                    _, end, last = states[k - 1]
                    if last != end:
                        seen += 1
                        self.assertIn(k, rounds)
                        floor = case_of(rule[0], end, last)
                        self.assertGreaterEqual(CASES.index(rounds[k]), CASES.index(floor))
        self.assertGreater(seen, 500)

    def test_what_is_at_most_the_end_changes_not_even_the_phase(self):
        for rule in MADE:
            for row in ROWS:
                states = states_of_row(rule, row)
                for k in range(1, len(row)):
                    if big(row[k]) <= big(states[k - 1][1]):
                        self.same(states[k], states[k - 1])


if __name__ == '__main__':
    unittest.main()
