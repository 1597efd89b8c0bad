"""[16], [19] and [20] Texts of rules and of ends, there and back."""

import unittest

from endclimbs.endvalues import End
from endclimbs.errors import InvalidText, NotUsable
from endclimbs.rulereadings import ends_read, rule_read
from endclimbs.rules import Rule
from endclimbs.ruletexts import ends_text, rule_text
from samples import CAREFUL, CASES, JUMPY, MOVES, ODD, PHASE, RULES, TENS, WAITER, Case

BIG = 10 ** 59
LOOSE = ((), ((('take', 7), ('wait', BIG), ('next', 0)), PHASE))
PLAIN_LINE = 'phase take 0 take 0 out 0'
NO_INTEGER_WORDS = ('', '+5', '01', '00', '-0', '-01', '--5', 'x', '5x', '5.', '1' * 61, '-' + '1' * 61, '1_0', '5,6', 'take')


class WritingTest(Case):
    def test_rules(self):
        self.same(rule_text(JUMPY), 'marks 5\nphase next 0 take 0 out 0')
        self.same(rule_text(((), JUMPY[1])), 'marks -\nphase next 0 take 0 out 0')
        self.same(rule_text(((-7, 0, 12), TENS[1])), 'marks -7 0 12\nphase take 0 take 1 out 0\nphase out 1 out 1 out 1')
        self.same(rule_text(rule=WAITER), 'marks 10\nphase wait 1 out 0 out 0\nphase out 0 wait 1 out 0')

    def test_nexts_may_be_any_numbers(self):
        self.same(rule_text(LOOSE), f'marks -\nphase take 7 wait {BIG} next 0\nphase take 0 next 0 out 0')

    def test_values_that_are_no_rules(self):
        things = ODD + (None, 0, (CAREFUL[0],), list(CAREFUL), ((1, 1), (PHASE,)), ((), ()), ((), (PHASE[:2],)))
        things += (((), (PHASE, (('take', -1),) * 3)), ((), ((('jump', 0),) * 3,)), ((), ((('take', True),) * 3,)))
        things += (Rule.of(CAREFUL), End(3), ((End(3),), (PHASE,)), CAREFUL + (0,), ((True,), (PHASE,)))
        for thing in things:
            self.fails(NotUsable, ('rule', -1), rule_text, thing)

    def test_ends(self):
        self.same(ends_text(()), '')
        self.same(ends_text((None,)), '-')
        self.same(ends_text((3, None, -5, 0, BIG)), f'3 - -5 0 {BIG}')
        self.same(ends_text(ends=(5, 4)), '5 4')
        for thing in (None, 0, True, 'x', '', [], [1], (True,), (1, 'x'), (End(3),), End(3), ((1,),)):
            self.fails(NotUsable, ('ends', -1), ends_text, thing)


class RuleReadingTest(Case):
    def wrong(self, text, line, field):
        self.fails(InvalidText, (line, field), rule_read, text)

    def test_there_and_back(self):
        for rule in RULES + (LOOSE, ((-BIG, -1, 0, 10 ** 60 - 1), (PHASE, PHASE))):
            self.same(rule_read(rule_text(rule)), rule)
        for text in ('marks -\nphase wait 9 out 10 next 0', 'marks -5 0\n' + PLAIN_LINE, 'marks 0\n' + PLAIN_LINE):
            self.same(rule_text(rule_read(text=text)), text)

    def test_line_of_marks(self):
        for text in ('', 'mark 5', ' marks 5', 'Marks 5', 'marks\t5', 'phase', '\n', 'marks5', '-', '\nmarks 5', ' '):
            self.wrong(text, 0, 0)
            self.wrong(f'{text}\n{PLAIN_LINE}', 0, 0)
        for line in ('marks', 'marks ', 'marks  5', 'marks x 5', 'marks  ', 'marks marks'):
            self.wrong(line, 0, 1)
            self.wrong(f'{line}\n{PLAIN_LINE}', 0, 1)
        for line in ('marks - 5', 'marks - ', 'marks - -', 'marks 5 -', 'marks 5 ', 'marks 5  6', 'marks 5 5', 'marks 5 4'):
            self.wrong(f'{line}\n{PLAIN_LINE}', 0, 2)
        self.wrong(f'marks 5 6 7 7 1\n{PLAIN_LINE}', 0, 4)
        self.wrong('marks 5 -6 x\nx', 0, 2)

    def test_integers_of_marks(self):
        for word in NO_INTEGER_WORDS:
            self.wrong(f'marks {word}\n{PLAIN_LINE}', 0, 1)
            self.wrong(f'marks -9 {word} 7\n{PLAIN_LINE}', 0, 2)
        for word in ('0', '-1', '9' * 60, '-' + '9' * 60):
            self.same(rule_read(f'marks {word}\n{PLAIN_LINE}')[0], (int(word),))
        self.wrong(f'marks {10 ** 59} {10 ** 58}\n{PLAIN_LINE}', 0, 2)

    def test_no_line_of_a_phase(self):
        for line in ('marks -', 'marks 5', 'marks -5 0 7'):
            self.wrong(line, 1, 0)

    def test_a_newline_begins_a_line(self):
        self.wrong('marks 5\n', 1, 0)
        self.wrong(f'marks 5\n{PLAIN_LINE}\n', 2, 0)
        self.wrong(f'marks 5\n\n{PLAIN_LINE}', 1, 0)
        self.wrong(f'marks 5\n{PLAIN_LINE}\n\n', 2, 0)

    def test_words_of_a_phase(self):
        words = PLAIN_LINE.split(' ')
        for many in range(1, 7):
            self.wrong('marks 5\n' + ' '.join(words[:many]), 1, many)
        for place in range(7):
            bad = ['', 'x', '-', '-1', '-0', '01', '1' * 61, 'phases', 'near']
            bad += ['0', '5'] if place % 2 == 1 or place == 0 else ['take', 'phase']
            bad += ['take'] if place == 0 else []
            for word in bad:
                line = ' '.join(words[:place] + [word] + words[place + 1:])
                self.wrong('marks 5\n' + line, 1, place)
                self.wrong(f'marks 5\n{PLAIN_LINE}\n{line}', 2, place)
                self.wrong('marks 5\n' + ' '.join(words[:place] + [word]), 1, place)
        for more in (' ', ' 0', ' take', ' take 0', ' x'):
            self.wrong(f'marks 5\n{PLAIN_LINE}{more}', 1, 7)

    def test_moves_and_numbers_of_a_phase(self):
        for move in MOVES:
            for later in (0, 7, 10 ** 60 - 1):
                line = f'phase {move} {later} {move} {later} {move} {later}'
                self.same(rule_read(f'marks -\n{line}'), ((), (((move, later),) * 3,)))
        for case in CASES:
            self.wrong(f'marks -\nphase {case} 0 take 0 take 0', 1, 1)

    def test_the_first_line_that_is_not_possible(self):
        self.wrong(f'marks x\nphase\n{PLAIN_LINE}', 0, 1)
        self.wrong(f'marks -\n{PLAIN_LINE}\nphase\nx', 2, 1)
        self.wrong(f'marks -\nphase take 0 jump x\n{PLAIN_LINE} 0', 1, 3)


class EndsReadingTest(Case):
    def wrong(self, text, field):
        self.fails(InvalidText, (0, field), ends_read, text)

    def test_there_and_back(self):
        for ends in ((), (0,), (None,), (7, None), (0, -5, None, BIG), (-BIG, None, None, 3)):
            self.same(ends_read(ends_text(ends)), ends)
        for text in ('', '-', '- -', '5 -5', '0 - 0', '9' * 60, '-' + '9' * 60):
            self.same(ends_text(ends_read(text=text)), text)

    def test_words_that_cannot_stand(self):
        for word in NO_INTEGER_WORDS + ('5\n', '\n5', '\n', '-\n', '5\n6', '--', '1..2'):
            if word != '':
                self.wrong(word, 0)
            self.wrong(f'{word} 5', 0)
            self.wrong(f'5 {word}', 1)
            self.wrong(f'5 - {word} x', 2)

    def test_empty_words(self):
        self.wrong(' ', 0)
        self.wrong(' 5', 0)
        self.wrong('5 ', 1)
        self.wrong('5  6', 1)


if __name__ == '__main__':
    unittest.main()
