"""The examples of the document, word for word."""

import doctest
import pathlib
import unittest

README = pathlib.Path(__file__).resolve().parent.parent / 'README.md'

EXAMPLES = r"""
    >>> CAREFUL = ((5,), ((('take', 1), ('take', 0), ('out', 0)), (('out', 1), ('take', 0), ('out', 0))))
    >>> JUMPY = ((5,), ((('next', 0), ('take', 0), ('out', 0)),))
    >>> TENS = ((10,), ((('take', 0), ('take', 1), ('out', 0)), (('out', 1), ('out', 1), ('out', 1))))

    >>> from endclimbs.rulechecker import lets_rule
    >>> [lets_rule(CAREFUL), lets_rule(((), JUMPY[1]))]
    [2, 1]
    >>> lets_rule(((5,), ((('take', 0), ('next', 1), ('jump', 0)),)))
    raises InvalidPaper(word='next', at=(0, 1))

    >>> from endclimbs.rulechanges import shifted, with_mark, with_pair, with_phase, without_phase
    >>> [shifted(TENS, -3)[0], with_mark(CAREFUL, 2)[0], with_pair(JUMPY, 0, 'far', 'take', 0)[1]]
    [(7,), (2, 5), ((('next', 0), ('take', 0), ('take', 0)),)]
    >>> [without_phase(CAREFUL, 0)[1], with_phase(JUMPY, (('wait', 0), ('wait', 1), ('wait', 0)), at=0)[1][1]]
    [((('out', 0), ('take', 0), ('out', 0)),), (('next', 1), ('take', 1), ('out', 1))]

    >>> from endclimbs.endvalues import End, Range
    >>> [End(3) <= End(None), (End(3) + End(None)).value, (End(3) + 4).value, (-End(3)).value, bool(End(None)), str(End(-3))]
    [True, None, 7, -3, False, '-3']

    >>> [str(Range(None, 5) & Range(2, None)), str(Range(1, 2) | Range(5, 6)), str(-Range(None, 5)), str(Range(1, 2) + Range(5, None))]
    ['2..5', '1..6', '-5..-', '6..-']

    >>> from endclimbs.rulereadings import ends_read, rule_read
    >>> from endclimbs.ruletexts import ends_text, rule_text
    >>> [rule_text(CAREFUL), ends_text((0, -5, None)), ends_read('7 -'), rule_read(rule_text(TENS)) == TENS]
    ['marks 5\nphase take 1 take 0 out 0\nphase out 1 take 0 out 0', '0 -5 -', (7, None), True]
    >>> rule_read('marks 3 3\nphase take 0 take 0 out 0')
    raises InvalidText(line=0, field=2)

    >>> from endclimbs.rules import Delayed, Plain, Rule
    >>> [Rule.of(CAREFUL)((0, 1, 2)), Plain((5,), 'next', 'take', 'out') == Rule.of(JUMPY)]
    [(0, 1, None), True]
    >>> late = Delayed((5,), 1, 'next', 'take', 'out')
    >>> [late[0], late((0, 1, 2)), late.delay, len(late)]
    [(('take', 1), ('take', 1), ('take', 1)), (0, 1, 5), 1, 2]
    >>> Rule.of(JUMPY)((0, 4, 3))
    raises NotRising(index=2)

    >>> from endclimbs.casing import case_of, gap_of, room_of, upper_mark
    >>> [gap_of((5, 9), 5), upper_mark((5, 9), 5), room_of((5, 9), 5), room_of((5, 9), 9)]
    [1, 9, 3, None]
    >>> [case_of((5, 9), 3, y) for y in (3, 4, 5, 6, None)] + [case_of((5, 9), 9, None)]
    [None, 'near', 'at', 'far', 'far', 'far']

    >>> from endclimbs.climbing import ends_of, moved, rounds_of, settled_end, state_of, states_of_row
    >>> WAITER = ((10,), ((('wait', 1), ('out', 0), ('out', 0)), (('out', 0), ('wait', 1), ('out', 0))))
    >>> [list(ends_of(CAREFUL, (0, 1, 2))), states_of_row(CAREFUL, (0, 1, 2))]
    [[0, 1, None], ((0, 0, 0), (1, 1, 1), (1, None, None))]
    >>> [rounds_of(JUMPY, (0, 1, 2)), state_of(WAITER, (0, 5)), moved(WAITER, (1, 0, 5), 10), settled_end(WAITER, (0, 5))]
    [((1, 'near', 'next'),), (1, 0, 5), (1, 0, 10), None]
    >>> settled_end(WAITER, (0, 5, 10))
    raises Restless(rounds=2)

    >>> from endclimbs.resting import rests, rests_from, rests_on_steps, ring_of
    >>> from endclimbs.spots import spots_of, steady_spots
    >>> spots_of(WAITER)
    (((0, 0, 'near'), None), ((0, 1, 'near'), None), ((1, 0, 'at'), None), ((1, 0, 'near'), None), ((1, 1, 'near'), None))
    >>> [steady_spots(WAITER), spots_of(((5, 9), ((('take', 0), ('out', 0), ('out', 0)),)))]
    [(((0, 0, 'near'), None), ((0, 1, 'near'), None)), (((0, 0, 'near'), None), ((0, 1, 'near'), 3), ((0, 2, 'near'), None))]
    >>> [(rests(rule), rests_on_steps(rule)) for rule in (CAREFUL, JUMPY, TENS, WAITER)]
    [(True, True), (True, True), (False, False), (False, True)]
    >>> [ring_of(JUMPY), ring_of(WAITER)[1][0]]
    [None, 10]
    >>> [rests_from(TENS, 0), rests_from(TENS, 10)]
    [True, False]

    >>> from endclimbs.restchecker import lets_rest
    >>> lets_rest(JUMPY, ('rests', (((0, 0, 'near'), None), ((0, 1, 'near'), None))))
    True
    >>> lets_rest(WAITER, ('rings', (0, 5, 10), (10,)))
    False
    >>> lets_rest(TENS, ('rings', (9,), (10,)))
    raises InvalidPaper(word='phase', at=-1)

    >>> from endclimbs.stepping import end_on, incoming, played, program_of, restless_program
    >>> STEPS = (((None, 0), (0, 5), (3, 7)), 0)
    >>> [incoming(STEPS, 2), incoming((((None, 0),), 1), 4), played(JUMPY, STEPS), end_on(JUMPY, STEPS), end_on(CAREFUL, STEPS)]
    [5, 5, (0, 5, 7), None, 7]
    >>> [played(CAREFUL, program_of(CAREFUL, (0, 1, 1, 2))), restless_program(WAITER)]
    [(0, 1, 2), None]
    >>> played(TENS, (((None, 10),), 1), most=20)
    raises Restless(rounds=20)

    >>> from endclimbs.rounds import greatest_rounds, longest_row, most_rounds
    >>> [most_rounds(TENS, 0), most_rounds(TENS, 10), most_rounds(CAREFUL, 0), most_rounds(((10 ** 30,), TENS[1]), 0) - 10 ** 30]
    [11, None, 4, 1]
    >>> [len(longest_row(CAREFUL, 0)), longest_row(TENS, 10), greatest_rounds(CAREFUL), greatest_rounds(TENS), greatest_rounds(JUMPY)]
    [5, None, 4, None, 2]

    >>> from endclimbs.excesses import excess_row, greatest_excess, inexact_row, is_exact
    >>> [is_exact(TENS, (0, 10)), is_exact(TENS, (0, 11)), inexact_row(TENS, (0, 11)), greatest_excess(TENS, (0, 11))]
    [True, False, (0, 11), None]
    >>> [greatest_excess(JUMPY, (0, 4)), excess_row(JUMPY, (0, 4)), excess_row(TENS, (0, 10)), inexact_row(TENS, (0, 10))]
    [4, (0, 1), (0,), None]

    >>> from endclimbs.backing import back_move, is_safe, narrowed, unsafe_program
    >>> [back_move((5,), (1, 'next', 'keep', 'down'), None, 3), back_move((5,), (1, 'next', 'keep', 'down'), 7, 3), back_move((5,), (1, 'take', 'next', 'down'), 3, 1), back_move((5,), (1, 'down', 'keep', 'keep'), None, 7)]
    [5, 5, 3, 5]
    >>> WIDE, FALLS = ((0, 3), ((('out', 0),) * 3,)), ((None, 0), (0, 2), (4, 3))
    >>> [narrowed(WIDE, (FALLS, 0), (many, 'take', 'down', 'keep')) for many in (0, 1, 2)]
    [None, 3, 0]
    >>> [is_safe(WIDE, (1, 'take', 'down', 'keep'), (0, 4)), is_safe(WIDE, (2, 'take', 'down', 'keep'), (0, 4)), unsafe_program(WIDE, (2, 'take', 'next', 'keep'), (0, 4))]
    [True, False, None]

    >>> from endclimbs.choosing import delayed, fitting_delays, least_marks
    >>> TWO = ((5, 10), TENS[1])
    >>> [most_rounds(TWO, 0), least_marks(TWO, 0, 6), least_marks(TWO, 0, 11) in ((5,), (10,)), least_marks(TWO, 0, 5)]
    [6, (5,), True, None]
    >>> [fitting_delays(JUMPY, 0, 3), delayed(JUMPY, 1)[1], most_rounds(delayed(JUMPY, 1), 0)]
    [(0, 1), ((('take', 1), ('take', 1), ('take', 1)), (('next', 1), ('take', 1), ('out', 1))), 3]

    >>> from endclimbs.joint import joint_states
    >>> joint_states(CAREFUL, JUMPY, (0, 1))
    (((0, 0, 0), (0, 0, 0)), ((1, 1, 1), (0, 5, 5)))

    >>> from endclimbs.alikeness import are_alike, parting_row
    >>> LEAPING = ((5,), ((('next', 0), ('next', 0), ('out', 0)),))
    >>> [are_alike(JUMPY, LEAPING), len(parting_row(CAREFUL, JUMPY)), parting_row(TENS, TENS)]
    [True, 2, None]
    >>> FAR = ((5, 10 ** 40), ((('take', 0), ('take', 0), ('take', 0)),))
    >>> are_alike(FAR, ((), ((('take', 0), ('take', 0), ('take', 0)),)))
    True

    >>> from endclimbs.overtaking import above_row, never_above
    >>> [never_above(CAREFUL, JUMPY, (0, 1)), above_row(CAREFUL, JUMPY, (0, 2)), above_row(JUMPY, CAREFUL, (0, 2))[0]]
    [True, (0, 1, 2), 0]

    >>> from endclimbs.overchecker import lets_above
    >>> [lets_above(CAREFUL, JUMPY, (0, 2), ('above', (0, 1, 2))), lets_above(JUMPY, JUMPY, (9, 9), ('never', (((0, 9, 9), (0, 9, 9)),)))]
    [False, True]
    >>> lets_above(CAREFUL, JUMPY, (0, 1), ('never', (((0, 0, 0), (0, 0, 0)),)))
    raises InvalidPaper(word='next', at=(0, 1))

    >>> from endclimbs.onsteps import above_program, never_above_on_steps
    >>> [never_above_on_steps(CAREFUL, JUMPY, (0, 1)), never_above_on_steps(CAREFUL, JUMPY, (0, 2))]
    [True, False]

    >>> ONE = ((2, 4), ((("take", 1), ("take", 1), ("take", 2)), (("next", 1), ("take", 1), ("take", 2)), (("out", 2),) * 3))
    >>> TWO = ((2, 4), ((("next", 1), ("take", 1), ("out", 1)), (("out", 1), ("take", 1), ("take", 1))))
    >>> [never_above(ONE, TWO, (0, 5)), never_above_on_steps(ONE, TWO, (0, 5))]
    [True, False]

    >>> from endclimbs.duels import Duel
    >>> duel = Duel(CAREFUL, JUMPY)
    >>> [duel.likeness, duel((0, 1, 2)), (0, 1) in duel, (0, 5) in duel, duel.turned() == duel]
    [False, ((0, 1, None), (0, 5, 5)), True, False, False]

    >>> from endclimbs.analyses import analysed, walks_of
    >>> LATER = ((), ((('take', 1), ('take', 1), ('out', 1)), (('out', 1), ('out', 1), ('out', 1))))
    >>> CHAIN = ('fgw', (('is', 'f', 5, 5), ('plus', 'g', 'f', 2), ('is', 'w', 0, 0), ('within', 'w', 'f', None, None), ('within', 'w', 'g', None, None)))
    >>> [analysed(CHAIN, (LATER, LATER, 'w'), 'wgf'), walks_of(CHAIN, (LATER, LATER, 'w'), 'wgf'), analysed(CHAIN, (LATER, LATER, 'w'), 'fgw')]
    [((5, 5), (7, 7), (0, None)), 3, ((5, 5), (7, 7), (0, 7))]

    >>> from endclimbs.lives import Live
    >>> live = Live(CHAIN, (LATER, LATER, 'w'))
    >>> [live.walk('wgf'), live.walk('wgf'), live.phases_now, live.open_names(), live.visit('w'), live['w'], live.barred(('back', 'w'))]
    ['fw', 'gw', ((0, 0), (0, 0), (0, 1)), 'w', 'w', (0, None), None]
    >>> [live.back('w'), live['w'], live.open_names(), live.undo(), live['w'], len(live)]
    ['w', (0, 7), '', ('back', 'w'), (0, None), 3]
"""


def told(error):
    """An error as the document writes it."""
    fields = ', '.join([f'{name}={value!r}' for name, value in vars(error).items()])
    return f'{type(error).__name__}({fields})'


def outcome(source, names):
    """What an expression gives, as the document writes it; None behind a statement."""
    try:
        try:
            code = compile(source, 'DOC.md', 'eval')
        except SyntaxError:
            exec(source, names)
            return None
        return repr(eval(code, names))
    except ValueError as error:
        return f'raises {told(error)}'


class ExamplesTest(unittest.TestCase):
    def test_each_example(self):
        names = {}
        lines = [line.strip() for line in EXAMPLES.split('\n')]
        for k, line in enumerate(lines):
            if line.startswith('>>> '):
                due = lines[k + 1]
                if due == '' or due.startswith('>>> '):
                    due = None
                with self.subTest(example=line):
                    self.assertEqual(outcome(line[4:], names), due)

    def test_the_examples_of_the_readme(self):
        found = doctest.testfile(str(README), module_relative=False)
        self.assertEqual(found.failed, 0)
        self.assertGreater(found.attempted, 0)


if __name__ == '__main__':
    unittest.main()
