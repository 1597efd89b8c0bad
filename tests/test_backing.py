"""[38] to [41] Back rounds, narrowing, and back rules that are safe or not."""

import itertools
import random
import unittest

from endclimbs.backing import back_move, is_back, is_safe, narrowed, unsafe_program
from endclimbs.errors import NotUsable, Restless
from endclimbs.kinds import is_program
from endclimbs.spans import programs_in
from playing import big
from samples import CAREFUL, JUMPY, ODD, RULES, TENS, WAITER, Case
from searching import bent_rules, made_programs, programs_of, slow_incoming, slow_playing

FAR = 10 ** 40
MOVES = ('keep', 'take', 'next', 'down')
BACKS = tuple((many,) + moves for many in (0, 1, 2, 5) for moves in itertools.product(MOVES, repeat=3))
WIDE, FALLS = ((0, 3), ((('out', 0),) * 3,)), ((None, 0), (0, 2), (4, 3))
STAYS = ((5,), ((('wait', 0),) * 3,))
NO_BACKS = ODD + (None, 0, (), (1, 'keep', 'keep'), (1,) + ('keep',) * 4, [1, 'keep', 'keep', 'keep'], (-1,) + ('keep',) * 3,
                  (True,) + ('keep',) * 3, (None,) + ('keep',) * 3, ('1',) + ('keep',) * 3, ('keep',) * 4)
MADE = tuple(bent_rules(60, seed=71))


def slow_back(marks, back, x, y):
    if big(y) >= big(x):
        return x
    move = back[1] if x is None else back[2] if x in marks else back[3]
    if move == 'take':
        return y
    if move == 'keep':
        return x
    if move == 'next':
        fitting = [mark for mark in marks if mark >= big(y) and mark < big(x)]
        return min(fitting, default=x)
    return max([mark for mark in marks if mark < big(x)], default=x)


def slow_narrowed(rule, program, back):
    """The end behind the playing and all back rounds, 'none' if the playing does not end."""
    found = slow_playing(rule, program)
    if found is None:
        return 'none'
    end = found[1]
    for _ in range(back[0]):
        end = slow_back(rule[0], back, end, slow_incoming(program, end))
    return end


def shows(rule, back, program):
    end = slow_narrowed(rule, program, back)
    return end != 'none' and big(slow_incoming(program, end)) > big(end)


class KindTest(Case):
    def test_back_rules(self):
        for back in BACKS + ((FAR, 'keep', 'take', 'down'),):
            self.same(is_back(back), True)
            self.same([is_back(list(back)), is_back(back[:3]), is_back(back + ('keep',))], [False] * 3)
        for thing in NO_BACKS:
            self.same(is_back(thing), False)
        self.same(is_back(thing=(0, 'next', 'next', 'next')), True)

    def test_each_place(self):
        for k in range(1, 4):
            for thing in ODD + (None, 0, 'out', 'wait', 'Keep', 'near', ['keep'], ('keep',)):
                if thing != 'take':
                    back = (1, 'keep', 'take', 'down')
                    self.same(is_back(back[:k] + (thing,) + back[k + 1:]), False)


class BackMoveTest(Case):
    def test_against_the_words(self):
        ends = list(range(-2, 12)) + [None]
        for marks in ((), (5,), (0, 5), (0, 3, 4, 9), (-1, 11)):
            for moves in itertools.product(MOVES, repeat=3):
                for x in ends:
                    for y in ends:
                        back = (3,) + moves
                        self.same(back_move(marks, back, x, y), slow_back(marks, back, x, y))

    def test_each_move_at_each_kind_of_end(self):
        marks = (0, 5, 9)
        due = {None: {'keep': None, 'take': 3, 'next': 5, 'down': 9}, 9: {'keep': 9, 'take': 3, 'next': 5, 'down': 5},
               7: {'keep': 7, 'take': 3, 'next': 5, 'down': 5}, 4: {'keep': 4, 'take': 3, 'next': 4, 'down': 0},
               5: {'keep': 5, 'take': 3, 'next': 5, 'down': 0}}
        for x in due:
            for move in MOVES:
                for place in range(3):
                    used = 0 if x is None else 1 if x in marks else 2
                    moves = ['keep'] * 3
                    moves[place] = move
                    end = due[x][move] if place == used else x
                    self.same(back_move(marks, (1,) + tuple(moves), x, 3), end)

    def test_edges(self):
        for moves in itertools.product(MOVES, repeat=3):
            for x, y in ((3, 3), (3, 4), (3, None), (None, None), (5, 5)):
                self.same(back_move((5,), (1,) + moves, x, y), x)
        # A mark that is y itself is at least y; one that is x is not less than x.
        self.same([back_move((3, 5), (1, 'keep', 'next', 'keep'), 5, 3), back_move((3, 5), (1, 'keep', 'next', 'keep'), 5, 4)],
                  [3, 5])
        self.same([back_move((), (1, move, move, move), x, 0) for move in ('next', 'down') for x in (4, None)],
                  [4, None, 4, None])
        self.same(back_move((5,), (1, 'down', 'down', 'down'), 4, 0), 4)
        # Down may get below what came in.
        self.same([back_move((0,), (1, 'down', 'keep', 'keep'), None, FAR), back_move((0, FAR), (0,) + ('down',) * 3, FAR, 7)],
                  [0, 0])
        self.same(back_move(marks=(5,), back=(1, 'next', 'keep', 'down'), x=7, y=3), 5)

    def test_values_that_are_none(self):
        back = (1, 'keep', 'keep', 'keep')
        for marks in (None, 0, True, 'x', [], [5], (5, 5), (9, 5), (True,), (None,)):
            self.fails(NotUsable, ('marks', -1), back_move, marks, None, True, True)
        for thing in NO_BACKS:
            self.fails(NotUsable, ('back', -1), back_move, (5,), thing, True, True)
        for x in ODD:
            self.fails(NotUsable, ('x', -1), back_move, (5,), back, x, True)
            self.fails(NotUsable, ('y', -1), back_move, (5,), back, 7, x)
            self.fails(NotUsable, ('y', -1), back_move, (5,), back, None, x)


class NarrowedTest(Case):
    def test_against_the_words(self):
        source = random.Random(7)
        over = 0
        for rule in MADE + RULES:
            for program in made_programs(30, seed=8):
                for back in source.sample(BACKS, 6):
                    due = slow_narrowed(rule, program, back)
                    if due == 'none':
                        over += 1
                        self.fails(Restless, (200,), narrowed, rule, program, back)
                    else:
                        self.same(narrowed(rule, program, back), due)
        self.assertGreater(over, 200)

    def test_no_one_and_many_rounds(self):
        falls = (FALLS, 0)
        self.same([narrowed(WIDE, falls, (many, 'take', 'down', 'keep')) for many in (0, 1, 2, 3, 60, FAR)],
                  [None, 3, 0, 0, 0, 0])
        marks = tuple(range(0, 60))
        far = (marks, ((('out', 0),) * 3,))
        program = (((None, -1), (-1, 0)), 0)
        for many in (0, 1, 2, 30, 58, 59, 60, 61):
            end = None if many == 0 else 60 - many
            self.same(narrowed(far, program, (many, 'down', 'down', 'down')), end if many < 60 else 0)

    def test_plus_comes_in_above_each_end(self):
        # With plus more comes in than the end, so nothing moves back but at endless, where endless comes in.
        for back in BACKS:
            self.same(narrowed(JUMPY, (((None, 6),), 1), back), None)

    def test_errors_in_their_order(self):
        for back in NO_BACKS:
            self.fails(NotUsable, ('back', -1), narrowed, TENS, (((None, 10),), 1), back)
            self.fails(NotUsable, ('back', -1), narrowed, CAREFUL, (FALLS, 0), back)
        for back in BACKS[:3]:
            self.fails(Restless, (200,), narrowed, TENS, (((None, 10),), 1), back)
            self.fails(Restless, (200,), narrowed, STAYS, (((None, 0), (0, 3)), 0), back)
        self.same(narrowed(rule=WIDE, program=(FALLS, 0), back=(1, 'take', 'down', 'keep')), 3)


class ProgramsTest(Case):
    def test_each_way_in_which_things_can_come_in(self):
        for span in ((0, 0), (0, 2), (3, 5), (-5, -2), (-1, 3), (FAR, FAR + 2)):
            ends = range(span[0] - 1, span[1] + 2)
            found = []
            for program in programs_in(span):
                self.assertTrue(is_program(program) and program[1] == 0)
                integers = [c for c, _ in program[0][1:]] + [d for _, d in program[0]]
                self.assertTrue(all(span[0] <= integer <= span[1] for integer in integers))
                found.append(tuple(slow_incoming(program, end) for end in ends))
            self.assertEqual(len(set(found)), len(found))
            self.assertEqual(set(found), {tuple(slow_incoming(program, end) for end in ends)
                                          for program in programs_of(span)})


class SafeTest(Case):
    def judge(self, rule, back, span, programs):
        due = not any(shows(rule, back, program) for program in programs)
        self.same(is_safe(rule, back, span), due)
        told = unsafe_program(rule, back, span)
        self.assertEqual(told is None, due)
        if told is not None:
            self.assertTrue(is_program(told) and told[1] == 0)
            integers = [c for c, _ in told[0][1:]] + [d for _, d in told[0]]
            self.assertTrue(all(span[0] <= integer <= span[1] for integer in integers))
            self.assertTrue(shows(rule, back, told))
        return due

    def test_against_all_step_programs(self):
        source = random.Random(9)
        seen = {True: 0, False: 0}
        rules = tuple(bent_rules(80, seed=72, marks=5, places=range(-1, 7)))
        for span in ((0, 2), (1, 4), (-1, 2), (3, 3)):
            programs = list(programs_of(span))
            for rule in rules + RULES:
                back = (source.choice((1, 1, 2, 3, 60)),) + tuple(source.choice(MOVES + ('down',)) for _ in range(3))
                seen[self.judge(rule, back, span, programs)] += 1
        self.assertGreater(min(seen.values()), 20)

    def test_a_tiny_span_of_six_integers(self):
        programs = list(programs_of((0, 5)))
        for back in ((1, 'down', 'down', 'down'), (2, 'take', 'down', 'keep'), (3, 'down', 'keep', 'take')):
            for rule in (WIDE, ((1, 3, 4), ((('next', 0), ('take', 0), ('out', 0)),))):
                self.judge(rule, back, (0, 5), programs)

    def test_what_comes_in_ahead_of_the_span(self):
        # Down leads to the mark -5; there the first d comes in, which is greater.
        rule = ((-5,), ((('out', 0),) * 3,))
        self.same([is_safe(rule, (1, 'down', 'keep', 'keep'), (0, 0)), is_safe(rule, (1, 'down', 'keep', 'keep'), (0, 1))],
                  [True, False])
        self.judge(rule, (1, 'down', 'keep', 'keep'), (0, 1), list(programs_of((0, 1))))

    def test_programs_without_end_do_not_count(self):
        for back in BACKS:
            self.same(is_safe(STAYS, back, (0, 3)), True)
            self.same(unsafe_program(STAYS, back, (0, 3)), None)

    def test_values_that_are_none(self):
        for back in NO_BACKS:
            self.fails(NotUsable, ('back', -1), is_safe, WIDE, back, (0, 4))
            self.fails(NotUsable, ('back', -1), unsafe_program, WIDE, back, (0, 4))
        self.same(is_safe(rule=WIDE, back=(2, 'take', 'down', 'keep'), span=(0, 4)), False)
        self.assertTrue(shows(WIDE, (2, 'take', 'down', 'keep'),
                              unsafe_program(rule=WIDE, back=(2, 'take', 'down', 'keep'), span=(0, 4))))


class ConsequencesTest(Case):
    def test_an_end_never_gets_greater(self):
        for marks in ((), (0, 4, 7)):
            for back in BACKS[:64]:
                for x in (-3, 0, 2, 4, 9, None):
                    for y in (-4, 0, 3, 4, 8, None):
                        self.assertLessEqual(big(back_move(marks, back, x, y)), big(x))

    def test_without_down_a_back_rule_is_safe(self):
        for rule in MADE[:15] + RULES:
            for moves in itertools.product(MOVES[:3], repeat=3):
                self.same(is_safe(rule, (3,) + moves, (0, 3)), True)

    def test_with_more_rounds_the_end_is_not_greater(self):
        for rule in MADE[:20] + RULES:
            for moves in itertools.product(MOVES, repeat=3):
                for program in made_programs(5, seed=10):
                    if slow_playing(rule, program) is not None:
                        ends = [big(narrowed(rule, program, (many,) + moves)) for many in range(5)]
                        self.assertEqual(ends, sorted(ends, reverse=True))
        self.same([is_safe(WIDE, (many, 'take', 'down', 'keep'), (0, 4)) for many in (1, 2)], [True, False])


if __name__ == '__main__':
    unittest.main()
