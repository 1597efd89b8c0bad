"""[69] Events and logs as lines, there and back, and lines that write none."""

import random
import re
import unittest

from analysing import CHAIN, LATER, RULES, WIDE, drawn_event, drawn_program, drawn_widening
from endclimbs.errors import InvalidText
from endclimbs.eventreadings import read_event, read_log
from endclimbs.eventtexts import event_line, log_lines
from endclimbs.liveevents import is_event
from endclimbs.replaying import is_log
from samples import CAREFUL, JUMPY, TENS, Case

BIG = 10 ** 59
PLAIN = 'take:0,next:0,out:0'
LINES = ((('visit', 'a'), 'visit a'), (('walk', ''), 'walk -'), (('walk', 'zaaz'), 'walk zaaz'), (('back', 'q'), 'back q'),
         (('drop', 0), 'drop 0'), (('drop', BIG), f'drop {BIG}'), (('step', ('is', 'a', None, None)), 'step is a - -'),
         (('step', ('is', 'a', -5, 0)), 'step is a -5 0'), (('step', ('plus', 'a', 'b', -7)), 'step plus a b -7'),
         (('step', ('within', 'x', 'x', None, 3)), 'step within x x - 3'),
         (('step', ('when', 'a', 'b', 0, 0, 5, None)), 'step when a b 0 0 5 -'),
         (('rule', 'low', ((), (JUMPY[1]))), 'rule low - next:0,take:0,out:0'),
         (('rule', 'high', ((-5, 0, 12), TENS[1])), 'rule high -5,0,12 take:0,take:1,out:0 out:1,out:1,out:1'),
         (('rule', 'low', CAREFUL), 'rule low 5 take:1,take:0,out:0 out:1,take:0,out:0'))
BEGUN = ['live fgw w 5', 'low - take:1,take:1,out:1 out:1,out:1,out:1', 'high - take:1,take:1,out:1 out:1,out:1,out:1',
         'step is f 5 5', 'step plus g f 2', 'step is w 0 0', 'step within w f - -', 'step within w g - -']
NO_NUMBERS = ('', '+5', '01', '00', '-0', '-1', '--5', 'x', '5x', '1' * 61, '1_0', '5,6', '-', '5\n', '\n5', '0x1')
NO_INTEGERS = ('', '+5', '01', '-01', '00', '-0', '--5', 'x', '5x', '1' * 61, '-' + '1' * 61, '1_0', '5,6', '-', '5\n')
NO_ENDS = tuple(word for word in NO_INTEGERS if word != '-') + ('--', '-\n', 'None', '1..2')
NO_LETTERS = ('', 'A', 'ab', '-', '5', 'a\n', '\n', 'aa', '{', '_')
NO_NAMES = ('', 'A', 'a-', '--', '5', 'a\n', '\n', 'aZ', '_', 'a,b')
NO_MARKS = ('', '5,5', '5,4', '5,', ',5', '-,5', '5,-', ',', '01', '-0', '5,05', 'x', '1' * 61, '5;6', '5,,6', '-5,-6', '5\n')
NO_PHASES = ('', 'take:0', 'take:0,take:0', 'take:0,take:0,take:0,take:0', 'take:0,take:0,jump:0', 'take:0,take:0,take:1',
             'take:0,take:0,take', 'take:0,take:0,take:', 'take:0,take:0,:0', 'take:0,take:0,take:-0', 'take:0,take:0,take:-1',
             'take:0,take:0,take:00', 'take:0,take:0,take:0:0', 'take:0,take:0,take:-', 'take:0,take:0,take:0,', ',take:0,take:0',
             'take;0,take:0,take:0', 'Take:0,take:0,take:0', 'take:0,take:0,take:' + '1' * 61, PLAIN + '\n', 'take:x,take:0,take:0',
             'near:0,at:0,far:0', '-')

INTEGER = r'(0|-?[1-9][0-9]{0,59})'
END = rf'(-|{INTEGER})'


def high_of(low):
    """What a word has to be at the high end behind this low end."""
    def stands(word):
        return bool(re.fullmatch(END, word)) and (low == '-' or word == '-' or int(word) >= int(low))
    return stands


def marks_by_words(word):
    if word == '-':
        return True
    parts = word.split(',')
    if not all(re.fullmatch(INTEGER, part) for part in parts):
        return False
    return all(int(x) < int(y) for x, y in zip(parts, parts[1:]))


def phase_by_words(many):
    def stands(word):
        pairs = re.fullmatch(r'(\w+):(0|[1-9][0-9]{0,59}),(\w+):(0|[1-9][0-9]{0,59}),(\w+):(0|[1-9][0-9]{0,59})', word)
        if not pairs:
            return False
        return all(pairs[k] in ('take', 'next', 'out', 'wait') and int(pairs[k + 1]) < many for k in (1, 3, 5))
    return stands


def is_one(pattern):
    return lambda word: bool(re.fullmatch(pattern, word))


def rule_checks(words, ahead):
    """What each word of a rule has to be, so many words standing ahead of it."""
    many = len(words) - ahead - 1
    return [marks_by_words] + [phase_by_words(many)] * max(many, 1)


def step_checks(words):
    two = [is_one('step'), is_one('is|plus|within|when')]
    letter, low = is_one('[a-z]'), is_one(END)

    def pair(k):
        return [low, high_of(words[k] if len(words) > k and low(words[k]) else '-')]

    kinds = {'is': lambda: [letter] + pair(3), 'plus': lambda: [letter, letter, is_one(INTEGER)],
             'within': lambda: [letter, letter] + pair(4), 'when': lambda: [letter, letter] + pair(4) + pair(6)}
    return two + (kinds[words[1]]() if len(words) > 1 and words[1] in kinds else [])


def event_checks(words):
    checks = [is_one('visit|walk|back|step|drop|rule')]
    if words[0] in ('visit', 'back'):
        return checks + [is_one('[a-z]')]
    if words[0] == 'walk':
        return checks + [is_one('-|[a-z]+')]
    if words[0] == 'drop':
        return checks + [is_one('0|[1-9][0-9]{0,59}')]
    if words[0] == 'step':
        return step_checks(words)
    if words[0] == 'rule':
        return checks + [is_one('low|high')] + rule_checks(words, 2)
    return checks


def first_fault(words, checks):
    """The index of the first word that cannot stand, or how many there are if one is missing, or None."""
    for k, word in enumerate(words):
        if k >= len(checks) or not checks[k](word):
            return k
    return len(words) if len(words) < len(checks) else None


def log_fault(lines):
    """The line and the field of the first fault in the lines of a log, or None."""
    many = 3
    for k, line in enumerate(lines):
        words = line.split(' ')
        if k == 0:
            checks = [is_one('live'), is_one('-|[a-z]+'), is_one('-|[a-z]+'), is_one('0|[1-9][0-9]{0,59}')]
        elif k < 3:
            checks = [is_one(('low', 'high')[k - 1])] + rule_checks(words, 1)
        else:
            checks = step_checks(words) if k < many else event_checks(words)
        fault = first_fault(words, checks)
        if fault is not None:
            return k, fault
        if k == 0:
            many = 3 + int(words[3])
    return (len(lines), 0) if len(lines) < many else None


class WritingTest(Case):
    def test_lines_of_events(self):
        for event, line in LINES:
            self.same(event_line(event), line)
        self.same(event_line(event=('visit', 'a')), 'visit a')

    def test_lines_of_logs(self):
        begun = ('live', CHAIN, WIDE)
        self.same(log_lines((begun,)), BEGUN)
        self.same(log_lines((begun, ('walk', 'wgf'), ('rule', 'high', CAREFUL))),
                  BEGUN + ['walk wgf', 'rule high 5 take:1,take:0,out:0 out:1,take:0,out:0'])
        self.same(log_lines(log=(('live', ('', ()), (TENS, JUMPY, '')),)),
                  ['live - - 0', 'low 10 take:0,take:1,out:0 out:1,out:1,out:1', 'high 5 next:0,take:0,out:0'])
        told = log_lines((begun,))
        self.assertIsInstance(told, list)
        told.append('x')
        self.same(log_lines((begun,)), BEGUN)


class ThereAndBackTest(Case):
    def test_events(self):
        for event, line in LINES:
            self.same(read_event(line), event)
            self.same(read_event(text=event_line(event)), event)
        source = random.Random(35)
        for _ in range(500):
            event = drawn_event(source, 'abcz')
            self.same(read_event(event_line(event)), event)
            self.assertTrue(is_event(event))
        for event in (('rule', 'low', ((-BIG, BIG), RULES[5][1])), ('step', ('is', 'a', -BIG * 10 + 1, BIG * 10 - 1))):
            self.same(read_event(event_line(event)), event)

    def test_logs(self):
        source = random.Random(36)
        for _ in range(150):
            program = drawn_program(source)
            log = (('live', program, drawn_widening(source, program[0])),)
            log += tuple(drawn_event(source, program[0]) for _ in range(source.randint(0, 6)))
            lines = log_lines(log)
            self.same(read_log(lines), log)
            self.same(log_lines(read_log(lines=lines)), lines)
            self.assertTrue(is_log(log))

    def test_names_that_are_none(self):
        # Nothing else is checked: names twice, widened ones that are no names, letters of steps that are none.
        lines = ['live aab qq 1', BEGUN[1], BEGUN[2], 'step is z 0 0', 'visit y', 'drop 77']
        log = (('live', ('aab', (('is', 'z', 0, 0),)), (LATER, LATER, 'qq')), ('visit', 'y'), ('drop', 77))
        self.same(read_log(lines), log)
        self.same([log_lines(log), is_log(log)], [lines, False])
        self.same(read_log(['live - a 0', BEGUN[1], BEGUN[2]]), (('live', ('', ()), (LATER, LATER, 'a')),))


class EventFaultTest(Case):
    def wrong(self, text, field):
        self.fails(InvalidText, (0, field), read_event, text)

    def test_first_words(self):
        for text in ('', ' ', '\n', ' visit a', 'Visit a', 'visits a', 'visit\na', '-', 'undo', 'live - - 0', 'low - ' + PLAIN, 'bars visit a',
                     'is a 0 0', 'VISIT a', 'EVENT', 'LETTER', '5'):
            self.wrong(text, 0)

    def test_missing_words(self):
        for _, line in LINES:
            words = line.split(' ')
            for many in range(1, 5 if words[0] == 'rule' else len(words)):
                if many < len(words) and not (words[0] == 'rule' and many > 3):
                    self.wrong(' '.join(words[:many]), many)
                    # An empty word is none that is missing.
                    self.wrong(' '.join(words[:many]) + ' ', many)
        self.wrong('rule low -', 3)
        self.wrong('rule low 5', 3)

    def test_words_too_many(self):
        for _, line in LINES:
            if not line.startswith('rule'):
                for more in ('', 'a', '0', '-', PLAIN):
                    self.wrong(f'{line} {more}', len(line.split(' ')))
        self.wrong(f'rule low - {PLAIN} ', 4)
        self.wrong(f'rule low - {PLAIN} 0', 4)

    def test_a_newline_belongs_to_its_word(self):
        for _, line in LINES:
            words = line.split(' ')
            self.wrong(line + '\n', len(words) - 1)
            self.wrong('\n' + line, 0)
            self.wrong(line + '\n' + line, len(words) - 1)
            self.wrong(words[0] + '\n' + ' '.join(words[1:]), 0)

    def test_letters(self):
        for word in NO_LETTERS:
            for head in ('visit', 'back'):
                self.wrong(f'{head} {word}', 1)
            self.wrong(f'step is {word} 1 0', 2)
            for kind in ('plus', 'within', 'when'):
                self.wrong(f'step {kind} {word} {word} x', 2)
                self.wrong(f'step {kind} a {word} x', 3)
        for word in NO_NAMES:
            self.wrong(f'walk {word}', 1)
        self.same([read_event('walk -'), read_event('walk z')], [('walk', ''), ('walk', 'z')])

    def test_numbers_and_integers(self):
        for word in NO_NUMBERS:
            self.wrong(f'drop {word}', 1)
        for word in NO_INTEGERS:
            self.wrong(f'step plus a b {word}', 4)
        for word in ('0', '9' * 60):
            self.same(read_event(f'drop {word}'), ('drop', int(word)))
            self.same(read_event(f'step plus a b {word}'), ('step', ('plus', 'a', 'b', int(word))))
        self.same(read_event('step plus a b -' + '9' * 60), ('step', ('plus', 'a', 'b', 1 - 10 ** 60)))

    def test_ends(self):
        for word in NO_ENDS:
            self.wrong(f'step is a {word} {word}', 3)
            self.wrong(f'step is a - {word}', 4)
            self.wrong(f'step within a b {word} 9', 4)
            self.wrong(f'step within a b -9 {word}', 5)
            self.wrong(f'step when a b - - {word} -', 6)
            self.wrong(f'step when a b - - - {word}', 7)

    def test_high_ends_less_than_their_low_ends(self):
        for low, high in ((0, -1), (5, 4), (-5, -6), (BIG, BIG - 1), (0, -BIG)):
            self.wrong(f'step is a {low} {high}', 4)
            self.wrong(f'step within a b {low} {high} x', 5)
            self.wrong(f'step when a b {low} {high} {low} {high}', 5)
            self.wrong(f'step when a b {high} {low} {low} {high}', 7)
        for low, high in ((0, 0), (-1, 0), ('-', -BIG), (BIG, '-'), ('-', '-'), (9, 10)):
            ends = tuple(None if end == '-' else end for end in (low, high))
            self.same(read_event(f'step is a {low} {high}'), ('step', ('is', 'a') + ends))

    def test_kinds_of_steps(self):
        for word in ('', 'was', 'Is', 'step', '-', 'is\n', 'rule'):
            self.wrong(f'step {word} a 0 0', 1)
        self.wrong('step', 1)

    def test_rules(self):
        for word in ('', 'mid', 'Low', 'lowhigh', '-', 'low\n'):
            self.wrong(f'rule {word} - {PLAIN}', 1)
        for word in NO_MARKS:
            self.wrong(f'rule low {word} {PLAIN}', 2)
            self.wrong(f'rule low {word}', 2)
        for word in NO_PHASES:
            self.wrong(f'rule high 5 {word}', 3)
        for word in NO_PHASES:
            if word != 'take:0,take:0,take:1':
                self.wrong(f'rule high 5 {PLAIN} {word}', 4)
                self.wrong(f'rule high 5 {word} {PLAIN} x', 3)

    def test_nexts_are_less_than_the_number_of_all_words_behind_the_marks(self):
        self.wrong('rule low - take:0,take:0,take:1', 3)
        self.wrong(f'rule low - take:0,take:0,take:2 {PLAIN}', 3)
        # The last word cannot stand, but it is one.
        self.wrong('rule low - take:0,take:0,take:1 x', 4)
        self.wrong('rule low - take:0,take:0,take:1 ', 4)
        self.wrong('rule low - take:0,take:0,take:2 x', 3)
        self.same(read_event(f'rule low - take:0,take:0,take:1 {PLAIN}')[2][1][0][2], ('take', 1))
        many = 12
        line = 'rule low - ' + ' '.join(f'take:{k},take:{many - 1},wait:0' for k in range(many))
        self.same(read_event(line)[2][1][11][0], ('take', 11))
        self.wrong(line.replace('take:11,take:11', 'take:11,take:12'), 14)

    def test_lines_with_something_changed(self):
        source = random.Random(37)
        words = ['', 'x', '-', '0', '5', '-5', '-0', '07', 'a', 'q', 'ab', 'step', 'is', 'low', 'high', 'visit', PLAIN, '5,9', '9,5', 'a\n',
                 'take:0,take:0,take:1', 'out:0,out:0']
        seen = {}
        for _ in range(6000):
            line = event_line(drawn_event(source, 'abc')).split(' ')
            way = source.randrange(4)
            place = source.randrange(len(line))
            if way == 0:
                line[place] = source.choice(words)
            elif way == 1:
                line.insert(place, source.choice(words))
            elif way == 2 and len(line) > 1:
                del line[place]
            else:
                line.append(source.choice(words))
            due = first_fault(line, event_checks(line))
            seen[due] = seen.get(due, 0) + 1
            if due is None:
                event = read_event(' '.join(line))
                self.assertTrue(is_event(event))
                self.same(event_line(event), ' '.join(line))
            else:
                self.wrong(' '.join(line), due)
        self.assertGreater(min(seen[None], seen[0], seen[1], seen[2], seen[3], seen[4], seen[5]), 50)


class LogFaultTest(Case):
    def wrong(self, lines, line, field):
        self.assertEqual(log_fault(lines), (line, field))
        self.fails(InvalidText, (line, field), read_log, lines)

    def changed(self, line, text):
        return BEGUN[:line] + [text] + BEGUN[line + 1:]

    def test_lines_that_are_missing(self):
        for many in range(len(BEGUN)):
            self.wrong(BEGUN[:many], many, 0)
        self.same(len(read_log(BEGUN)), 1)
        for number in (6, 60, BIG):
            self.wrong([f'live fgw w {number}'] + BEGUN[1:], 8, 0)
        # An event stands where a step is due; a step where a rule is due.
        self.wrong(BEGUN[:7] + ['visit f'], 7, 0)
        self.wrong(BEGUN[:1] + BEGUN[2:], 1, 0)
        self.wrong(BEGUN[:2] + BEGUN[3:], 2, 0)
        self.wrong(BEGUN[1:], 0, 0)

    def test_lines_too_many(self):
        for line, field in (('', 0), ('x', 0), ('low - ' + PLAIN, 0), ('live - - 0', 0), ('visit', 1), ('visit f g', 2), ('undo', 0)):
            self.wrong(BEGUN + [line], 8, field)
            self.wrong(BEGUN + ['visit f', 'step is f 0 0', line, 'x'], 10, field)
        # A step more than told is an event.
        self.same(read_log(['live fgw w 4'] + BEGUN[1:])[1:], (('step', ('within', 'w', 'g', None, None)),))

    def test_the_first_line(self):
        for words, field in ((('',), 0), (('Live', 'a', 'a', '0'), 0), (('live',), 1), (('live', ''), 1), (('live', 'fgw'), 2),
                             (('live', 'fgw', 'w'), 3), (('live', 'fgw', 'w', ''), 3), (('live', 'fgw', 'w', '5', ''), 4),
                             (('live', 'fgw', 'w', '5', '5'), 4), (('live', 'fgW', 'w', '5'), 1), (('live', 'fgw', 'W', '5'), 2),
                             (('live', '', 'w', '5'), 1), (('live', 'fgw', '', '5'), 2), (('live', 'f-', 'w', '5'), 1),
                             (('', 'live'), 0), (('live\n', 'fgw', 'w', '5'), 0)):
            self.wrong(self.changed(0, ' '.join(words)), 0, field)
            self.wrong([' '.join(words)], 0, field)
        for number in NO_NUMBERS:
            self.wrong(self.changed(0, f'live fgw w {number}'), 0, 3)

    def test_the_lines_of_rules(self):
        for line, word in ((1, 'low'), (2, 'high')):
            other = 'high' if word == 'low' else 'low'
            for text, field in (('', 0), (f'{other} - {PLAIN}', 0), ('rule low - ' + PLAIN, 0), (word, 1), (f'{word} -', 2), (f'{word} 5 ', 2),
                                (f'{word} 5 {PLAIN} ', 3), (f'{word} - take:0,take:0,take:1', 2), (f'{word} - take:0,take:0,take:1 x', 3)):
                self.wrong(self.changed(line, text), line, field)
            for marks in NO_MARKS:
                self.wrong(self.changed(line, f'{word} {marks} {PLAIN}'), line, 1)
            for phase in NO_PHASES:
                self.wrong(self.changed(line, f'{word} - {phase}'), line, 2)

    def test_the_lines_of_steps(self):
        for line in range(3, 8):
            for text, field in (('', 0), ('Step is f 0 0', 0), ('step', 1), ('step ', 1), ('step is f 1 0', 4), ('step is F 1 0', 2),
                                ('step is f 0 0 ', 5), ('step plus f g', 4), ('walk -', 0), ('step plus f g -', 4)):
                self.wrong(self.changed(line, text), line, field)

    def test_logs_with_something_changed(self):
        source = random.Random(38)
        words = ['', 'x', '-', '0', '2', '-5', 'a', 'ab', 'step', 'low', 'live', PLAIN, '5,9', '9,5']
        seen = {}
        for _ in range(1500):
            program = drawn_program(source, most_steps=6)
            log = (('live', program, drawn_widening(source, program[0])),)
            log += tuple(drawn_event(source, program[0]) for _ in range(source.randint(0, 3)))
            lines = log_lines(log)
            for _ in range(source.randint(1, 2)):
                place = source.randrange(len(lines))
                way = source.randrange(5)
                if way == 0 and len(lines) > 1:
                    del lines[place]
                elif way == 1:
                    lines.insert(place, source.choice(lines))
                else:
                    line = lines[place].split(' ')
                    line[source.randrange(len(line))] = source.choice(words)
                    lines[place] = ' '.join(line)
            due = log_fault(lines)
            seen[due and due[0]] = seen.get(due and due[0], 0) + 1
            if due is None:
                self.same(log_lines(read_log(lines)), lines)
            else:
                self.fails(InvalidText, due, read_log, lines)
        self.assertGreater(min(seen[None], seen[0], seen[1], seen[2], seen[3], seen[4]), 30)

    def test_the_list_does_not_change(self):
        lines = list(BEGUN)
        read_log(lines)
        self.same(lines, BEGUN)


if __name__ == '__main__':
    unittest.main()
