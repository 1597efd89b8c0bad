"""[21] Rules as objects."""

import unittest

from endclimbs.endvalues import End, Range
from endclimbs.errors import InvalidPaper, InvalidText, NotRising, NotUsable
from endclimbs.rules import Delayed, Plain, Rule
from endclimbs.ruletexts import rule_text
from playing import made_rows, made_rules, states_by_words
from samples import CAREFUL, JUMPY, MOVES, NO_INTEGERS, ODD, PHASE, RULES, TENS, Case

OBJECTS = (End(0), Range(0, 1), Rule.of(JUMPY))
NO_MOVES = (None, 0, 1, True, '', 'jump', 'Take', 'near', 'tak', (), ('take',), ['take'], End(3))
TRULY = (('take', True), ('take', 0), ('out', False))


class RuleTest(Case):
    def test_parts(self):
        for marks, phases in RULES + tuple(made_rules(20)):
            for rule in (Rule(marks, *phases), Rule.of((marks, phases)), Rule.of(thing=(marks, phases))):
                self.assertIs(type(rule), Rule)
                self.same([rule.marks, rule.phases, rule.form()], [marks, phases, (marks, phases)])
                self.same([len(rule), list(rule), tuple(rule)], [len(phases), list(phases), phases])
                self.same([rule[k] for k in range(len(phases))], list(phases))

    def test_errors_of_the_checker(self):
        bad = (((5,), (), 'phases', -1), ([5], (PHASE,), 'marks', -1), ((5, 5), (PHASE,), 'marks', 1))
        bad += (((5,), (PHASE, ()), 'phase', 1), ((5,), ((PHASE[0], ('jump', 0), PHASE[2]),), 'case', (0, 1)))
        bad += (((5,), ((PHASE[0], PHASE[1], ('out', 1)),), 'next', (0, 2)), (None, (), 'marks', -1))
        bad += (((5,), (TRULY,), 'case', (0, 0)), ((5,), (Rule.of(JUMPY),), 'phase', 0), (End(1), (PHASE,), 'marks', -1))
        for marks, phases, word, at in bad:
            self.fails(InvalidPaper, (word, at), Rule, marks, *phases)
            self.fails(InvalidPaper, (word, at), Rule.of, (marks, phases))
        for thing in ODD + (None, 0, CAREFUL + (0,), list(CAREFUL), CAREFUL[:1]) + OBJECTS:
            self.fails(InvalidPaper, ('shape', -1), Rule.of, thing)

    def test_ends_on_a_row(self):
        for form in RULES + tuple(made_rules(40)):
            rule = Rule.of(form)
            for row in made_rows(30):
                self.same(rule(row), tuple(end for _, end, _ in states_by_words(form, row)))
        rule = Rule.of(CAREFUL)
        self.same(rule(row=(0, 1, 2)), (0, 1, None))
        for row in (None, 0, (), [0], (None,), (True,), (0, 'x'), (0, End(3)), 'x', (5, 4, True)) + OBJECTS:
            self.fails(NotUsable, ('row', -1), rule, row)
        for row, index in (((1, 0), 1), ((0, 4, 3), 2), ((0, None, 5, 4), 2)):
            self.fails(NotRising, (index,), rule, row)

    def test_a_phase_by_its_index(self):
        rule = Rule.of(CAREFUL)
        for index in NO_INTEGERS + (-1, -2, 2, 10 ** 59) + OBJECTS:
            self.fails(NotUsable, ('index', -1), lambda: rule[index])

    def test_in(self):
        for form in RULES:
            rule = Rule.of(form)
            for phase in form[1]:
                self.same(phase in rule, True)
                self.same(list(phase) in rule, False)
            for thing in ODD + (None, 0, PHASE, form, form[1], form[0]) + OBJECTS:
                self.same(thing in rule, False)
        rule = Rule((), (('take', 1), ('take', 0), ('out', 0)), PHASE)
        self.same([TRULY in rule, (('take', 1), ('take', 0), ('out', False)) in rule], [False, False])
        self.same((('take', 1), ('take', 0), ('out', 0)) in rule, True)

    def test_equal(self):
        rules = [Rule.of(form) for form in RULES]
        for k, rule in enumerate(rules):
            for m, form in enumerate(RULES):
                self.same(rule == Rule.of(form), k == m)
                self.same(rule != Rule.of(form), k != m)
            for other in ODD + (None, 0, RULES[k], End(0), Range(0, 1), rule_text(RULES[k])):
                self.same(rule == other, False)
                self.same(rule != other, True)
        self.same(Rule((), PHASE) == Rule((0,), PHASE), False)
        self.same(Rule((), PHASE) == Rule((), PHASE, PHASE), False)

    def test_equal_whatever_the_class(self):
        plain, late = Plain((5,), 'next', 'take', 'out'), Delayed((5,), 0, 'next', 'take', 'out')
        for one in (plain, late, Rule.of(JUMPY)):
            for other in (plain, late, Rule.of(JUMPY)):
                self.same([one == other, one != other], [True, False])
        self.same([plain == Delayed((5,), 1, 'next', 'take', 'out'), plain == Plain((5,), 'out', 'take', 'out')], [False] * 2)

    def test_text(self):
        for form in RULES + tuple(made_rules(20)):
            rule = Rule.of(form)
            self.same(str(rule), rule_text(form))
            self.same(Rule.parsed(str(rule)) == rule, True)
            self.assertIs(type(Rule.parsed(text=str(rule))), Rule)
        self.same(str(Plain((), 'next', 'take', 'out')), 'marks -\nphase next 0 take 0 out 0')

    def test_parsed_refuses(self):
        self.fails(InvalidText, (0, 0), Rule.parsed, '')
        self.fails(InvalidText, (1, 0), Rule.parsed, 'marks 5')
        self.fails(InvalidText, (2, 0), Rule.parsed, 'marks -\nphase take 0 take 5 out 0\n')
        self.fails(InvalidPaper, ('next', (0, 1)), Rule.parsed, 'marks -\nphase take 0 take 5 out 0')
        self.fails(InvalidPaper, ('next', (1, 2)), Rule.parsed, 'marks 1\nphase take 1 take 0 out 1\nphase take 0 take 0 out 2')

    def test_sum(self):
        phase = (('wait', 2), ('take', 0), ('out', 1))
        longer = Rule.of(CAREFUL) + phase
        self.assertIs(type(longer), Rule)
        self.same(longer.form(), (CAREFUL[0], CAREFUL[1] + (phase,)))
        for one in (Plain((5,), 'next', 'take', 'out'), Delayed((5,), 1, 'next', 'take', 'out')):
            more = one + PHASE
            self.assertIs(type(more), Rule)
            self.same(more.form(), (one.marks, one.phases + (PHASE,)))
        wrong = ODD + (None, 0, PHASE[:2], list(PHASE), (('take', 3), ('take', 0), ('out', 0)), TRULY) + OBJECTS
        for thing in wrong:
            self.fails(NotUsable, ('phase', -1), lambda: Rule.of(CAREFUL) + thing)

    def test_moves(self):
        self.same([Rule.moves(), Rule.of(TENS).moves(), Plain.moves()], [MOVES] * 3)

    def test_never_changes(self):
        rule = Rule.of(CAREFUL)
        kept = rule
        (rule((0, 1)), rule[0], PHASE in rule, len(rule), list(rule), str(rule), rule.form(), rule == kept)
        for name in ('marks', 'phases'):
            with self.assertRaises(AttributeError):
                setattr(rule, name, ())
        with self.assertRaises(TypeError):
            rule[0] = PHASE
        rule += PHASE
        self.same([kept.form(), len(rule)], [CAREFUL, 3])

    def test_methods_stand_in_their_classes(self):
        names = 'init call getitem contains len iter eq str add'.split()
        for name in [f'__{name}__' for name in names] + ['marks', 'phases', 'form', 'of', 'parsed', 'moves']:
            self.assertIn(name, vars(Rule))
        self.assertIn('__init__', vars(Plain))
        self.assertTrue({'__init__', 'delay'} <= set(vars(Delayed)))


class DerivedTest(Case):
    def test_bases(self):
        self.assertEqual([Plain.__bases__, Delayed.__bases__], [(Rule,), (Rule,)])

    def test_plain(self):
        for marks in ((), (5,), (-1, 0, 7)):
            for near in MOVES:
                for at in MOVES:
                    for far in MOVES:
                        rule = Plain(marks, near, at, far)
                        self.assertIs(type(rule), Plain)
                        self.same(rule.form(), (marks, (((near, 0), (at, 0), (far, 0)),)))
        self.same(Plain(marks=(5,), near='next', at='take', far='out').form(), JUMPY)

    def test_delayed(self):
        for count in (0, 1, 2, 7, 60, 300):
            rule = Delayed((5,), count, 'next', 'take', 'wait')
            self.assertIs(type(rule), Delayed)
            self.same([rule.delay, len(rule), rule.marks], [count, count + 1, (5,)])
            for k in range(count):
                self.same(rule[k], (('take', k + 1), ('take', k + 1), ('take', k + 1)))
            self.same(rule[count], (('next', count), ('take', count), ('wait', count)))
        rule = Delayed(marks=(), count=1, near='out', at='wait', far='take')
        self.same([rule.delay, rule[1]], [1, (('out', 1), ('wait', 1), ('take', 1))])
        with self.assertRaises(AttributeError):
            rule.delay = 2

    def test_derived_rules_do_what_rules_do(self):
        late = Delayed((5,), 1, 'next', 'take', 'out')
        self.same([late((0, 1, 2)), list(late), late.phases[0] in late, str(late) == rule_text(late.form())],
                  [(0, 1, 5), list(late.phases), True, True])
        self.fails(NotUsable, ('index', -1), lambda: late[2])
        self.fails(NotRising, (2,), late, (0, 5, 4))
        self.assertIs(type(Plain.of(JUMPY)), Rule)

    def test_marks_of_derived_rules(self):
        for marks, at in ((None, -1), ([5], -1), (5, -1), (End(5), -1), ((5, 5), 1), ((True,), 0), ((0, 'x', 1), 1)):
            self.fails(InvalidPaper, ('marks', at), Plain, marks, 'x', 'x', 'x')
            self.fails(InvalidPaper, ('marks', at), Delayed, marks, -1, 'x', 'x', 'x')

    def test_moves_and_count_of_derived_rules(self):
        good = ['take', 'next', 'out']
        for k, name in enumerate(('near', 'at', 'far')):
            for move in NO_MOVES:
                moves = good[:k] + [move] * (3 - k)
                self.fails(NotUsable, (name, -1), Plain, (5,), *moves)
                self.fails(NotUsable, (name, -1), Delayed, (5,), 2, *moves)
                moves = good[:k] + [move] + good[k + 1:]
                self.fails(NotUsable, (name, -1), Plain, (5,), *moves)
                self.fails(NotUsable, (name, -1), Delayed, (5,), 2, *moves)
        for count in NO_INTEGERS + (-1, End(3)):
            self.fails(NotUsable, ('count', -1), Delayed, (5,), count, 'x', 'x', 'x')
            self.fails(NotUsable, ('count', -1), Delayed, (5,), count, *good)


if __name__ == '__main__':
    unittest.main()
