"""[70] A desk, at which a live analysis is led by rows of text."""

import random
import unittest

from analysing import CHAIN, LATER, WIDE, drawn_event, drawn_program, drawn_widening
from endclimbs.desk import Desk
from endclimbs.errors import ClimbError, InvalidEvent, InvalidPaper, InvalidRow, NothingToUndo, NotUsable
from endclimbs.eventreadings import read_event
from endclimbs.eventtexts import event_line, log_lines
from endclimbs.lives import Live
from samples import CAREFUL, TENS, Case

PLAIN = 'take:0,take:0,take:0'
OUT = ((), ((('out', 0),) * 3,))
BEGUN = '\n'.join(log_lines((('live', CHAIN, WIDE),)))
BARE = f'live - - 0\nlow - {PLAIN}\nhigh - {PLAIN}'
ASKED = ('events', 'log', 'open', 'ranges', 'phases', 'sheet', 'steps')
# Rows that are none, ahead of the first live analysis and behind it.
NO_ROWS = ('', ' ', '\n', '-', 'ok', 'Events', 'events ', ' events', 'events\n', 'log\n', 'undo ', 'undo 1', 'undo\nundo', 'opens',
           'visit', 'visit ', 'visit f g', 'visit f\n', '\nvisit f', 'visit f\nvisit g', 'visit F', 'walk', 'walk ', 'walk fG', 'back',
           'step', 'step is f 1 0', 'step is f 0', 'drop', 'drop -1', 'drop 00', 'rule low -', 'rule low - take:0,take:0,take:1',
           'bars', 'bars ', 'bars undo', 'bars events', 'bars bars visit f', 'bars  visit f', 'Bars visit f', 'barsvisit f', 'bars visit',
           'bars visit f ', 'bars visit f\n', 'bars live - - 0', 'bars ' + BARE, 'counts', 'sheet /', 'live', 'live - - 0',
           'live - - 0\nlow - ' + PLAIN, BARE + '\n', '\n' + BARE, BARE + '\nvisit f', BARE + '\nstep is f 0 0', BEGUN + '\nwalk fgw',
           BEGUN + '\n', BEGUN[:-1], BEGUN.replace('\n', ' '), BEGUN.replace('live', 'Live'), BEGUN.replace('5 5', '5 4'),
           BARE.replace('\nlow', '\n low'), BARE.replace('take:0', 'take:1'), BARE.replace('- - 0', '- - 1'), BARE.replace('- - 0', '- - -'),
           'low - ' + PLAIN, 'high - ' + PLAIN, 'is f 0 0', 'f', 'EVENT', 'visit f / visit g')


def words(held):
    return 'none' if held is None else '..'.join('-' if end is None else str(end) for end in held)


def answer_by_live(live, row):
    """What a desk with this live analysis answers to one of the rows that ask."""
    ranges, phases = live.ranges_now, live.phases_now
    told = {'events': lambda: str(len(live)), 'log': lambda: str(live), 'open': live.open_names,
            'ranges': lambda: ' '.join(f'{name}@{words(held)}' for name, held in zip(live, ranges)),
            'phases': lambda: ' '.join(f'{name}@{low}@{high}' for name, (low, high) in zip(live, phases)),
            'sheet': lambda: ' / '.join(live.sheet()),
            'steps': lambda: ' / '.join(event_line(('step', step)) for step in live.program_now[1])}[row]()
    return told or '-'


class DeskCase(Case):
    def desk(self, *rows):
        desk = Desk()
        for row in rows:
            desk.say(row)
        return desk

    def all_of(self, desk):
        return [desk.say(row) for row in ASKED]


class ComparedTest(DeskCase):
    def test_drawn_sessions(self):
        source = random.Random(40)
        refused = 0
        for _ in range(50):
            program = drawn_program(source)
            widening = drawn_widening(source, program[0])
            desk, live = Desk(), Live(program, widening)
            self.same(desk.say('\n'.join(log_lines(live.log()))), 'ok')
            for _ in range(45):
                way = source.random()
                event = drawn_event(source, program[0])
                line = event_line(event)
                if way < 0.2:
                    self.same(desk.say('bars ' + line), live.barred(event) or '-')
                elif way < 0.3:
                    self.judge(desk, live.undo, 'undo')
                else:
                    refused += self.judge(desk, lambda: live.go(event), line)
                self.same([desk.say(row) for row in ASKED], [answer_by_live(live, row) for row in ASKED])
        self.assertGreater(refused, 100)

    def judge(self, desk, act, row):
        """The desk answers to the row what the act tells, or raises the same; tells whether it raises."""
        try:
            told = act()
        except ClimbError as error:
            self.fails(type(error), tuple(vars(error).values()), desk.say, row)
            return True
        self.same(desk.say(row), (event_line(told) if row == 'undo' else told) or '-')
        return False


class RowTest(DeskCase):
    def test_each_row(self):
        desk = Desk()
        for row, due in ((BEGUN, 'ok'), ('events', '0'), ('log', '-'), ('open', 'fw'), ('ranges', 'f@none g@none w@none'),
                         ('phases', 'f@0@0 g@0@0 w@0@0'), ('sheet', 'f none          0  0 / g none          0  0 / w none          0  0'),
                         ('steps', 'step is f 5 5 / step plus g f 2 / step is w 0 0 / step within w f - - / step within w g - -'),
                         ('walk wgf', 'fw'), ('walk wgf', 'gw'), ('open', 'w'), ('visit w', 'w'), ('visit f', '-'), ('walk -', '-'),
                         ('ranges', 'f@5..5 g@7..7 w@0..-'), ('phases', 'f@0@0 g@0@0 w@0@1'), ('bars back w', '-'), ('back w', 'w'),
                         ('ranges', 'f@5..5 g@7..7 w@0..7'), ('open', '-'), ('undo', 'back w'), ('events', '5'),
                         ('step is f - 5', '-'), ('steps', 'step is f 5 5 / step plus g f 2 / step is w 0 0 / step within w f - - / '
                                                           'step within w g - - / step is f - 5'),
                         ('bars back f', 'open'), ('bars visit q', 'name'), ('bars drop 6', 'none'), ('drop 1', '-'), ('visit f', 'f'),
                         ('ranges', 'f@-..5 g@7..7 w@0..-'), ('rule high 5 take:1,take:0,out:0 out:1,take:0,out:0', '-'),
                         ('phases', 'f@0@0 g@0@0 w@0@0'), ('undo', 'rule high 5 take:1,take:0,out:0 out:1,take:0,out:0'),
                         ('undo', 'visit f'), ('undo', 'drop 1'), ('undo', 'step is f - 5'), ('undo', 'walk -'),
                         ('log', 'walk wgf / walk wgf / visit w / visit f'), ('events', '4'),
                         ('sheet', 'f 5..5          0  0 / g 7..7          0  0 / w 0..-          0  1')):
            self.same(desk.say(row), due)
        self.same(desk.say(row='events'), '4')

    def test_without_names(self):
        desk = self.desk(BARE)
        self.same(self.all_of(desk), ['0', '-', '-', '-', '-', '-', '-'])
        self.same([desk.say('walk -'), desk.say('events'), desk.say('log')], ['-', '1', 'walk -'])
        self.fails(InvalidEvent, (('visit', 'a'), 'name'), desk.say, 'visit a')

    def test_full_and_many(self):
        desk = self.desk(BEGUN)
        for _ in range(7):
            desk.say('step is f 0 0')
        self.same(desk.say('bars step is f 0 0'), 'many')
        self.fails(InvalidEvent, (('step', ('is', 'f', 0, 0)), 'many'), desk.say, 'step is f 0 0')
        for _ in range(33):
            desk.say('visit g')
        self.same([desk.say('events'), desk.say('bars visit q'), desk.say('bars walk -')], ['40', 'full', 'full'])
        self.fails(InvalidEvent, (('walk', ''), 'full'), desk.say, 'walk -')

    def test_errors_of_the_live_analysis(self):
        desk = self.desk(BEGUN)
        before = self.all_of(desk)
        for line, reason in (('visit q', 'name'), ('back f', 'none'), ('drop 5', 'none'), ('step plus f q 0', 'name'), ('walk fq', 'name')):
            self.fails(InvalidEvent, (read_event(line), reason), desk.say, line)
            self.same(desk.say('bars ' + line), reason)
        self.fails(NothingToUndo, (0,), desk.say, 'undo')
        self.same(self.all_of(desk), before)


class NoRowTest(DeskCase):
    def test_ahead_of_the_first_live_analysis(self):
        desk = Desk()
        for row in NO_ROWS + ASKED + ('undo', 'visit f', 'walk -', 'bars visit f', 'drop 0', 'step is f 0 0', f'rule low - {PLAIN}'):
            self.fails(InvalidRow, (row,), desk.say, row)
        self.same(desk.say(BARE), 'ok')

    def test_behind_it(self):
        desk = self.desk(BEGUN, 'walk fgw')
        before = self.all_of(desk)
        for row in NO_ROWS:
            self.fails(InvalidRow, (row,), desk.say, row)
        self.same(self.all_of(desk), before)

    def test_the_very_string_is_kept(self):
        desk = Desk()
        for row in ('no row', BARE + '\n'):
            with self.assertRaises(InvalidRow) as caught:
                desk.say(row)
            self.assertIs(caught.exception.row, row)

    def test_first_of_several_errors(self):
        # With an event behind them, or a line that is not possible, they are no lines of a first element at all.
        desk = self.desk(BEGUN)
        for row in (f'live aa - 0\nlow - {PLAIN}\nhigh - {PLAIN}\nvisit q', f'live aa - 1\nlow - {PLAIN}\nhigh - {PLAIN}\nstep is a 1 0',
                    'bars visit', 'visit qq'):
            self.fails(InvalidRow, (row,), desk.say, row)


class BeginningTest(DeskCase):
    REFUSED = ((f'live aba - 0\nlow - {PLAIN}\nhigh - {PLAIN}', InvalidPaper, ('names', -1)),
               (f'live a b 0\nlow - {PLAIN}\nhigh - {PLAIN}', NotUsable, ('widening', -1)),
               (f'live ab ba 0\nlow - {PLAIN}\nhigh - {PLAIN}', NotUsable, ('widening', -1)),
               (f'live a aa 0\nlow - {PLAIN}\nhigh - {PLAIN}', NotUsable, ('widening', -1)),
               (f'live - a 0\nlow - {PLAIN}\nhigh - {PLAIN}', NotUsable, ('widening', -1)),
               (f'live a - 1\nlow - {PLAIN}\nhigh - {PLAIN}\nstep is b 0 0', InvalidPaper, ('name', 0)),
               (f'live a b 2\nlow - {PLAIN}\nhigh - {PLAIN}\nstep is a 0 0\nstep plus a b 0', InvalidPaper, ('name', 1)),
               (f'live aa b 1\nlow - {PLAIN}\nhigh - {PLAIN}\nstep is b 0 0', InvalidPaper, ('names', -1)))

    def test_refused_ahead_of_the_first_one(self):
        desk = Desk()
        for row, error, fields in self.REFUSED:
            self.fails(error, fields, desk.say, row)
            # There is still none.
            for asked in ASKED + ('undo', 'visit a'):
                self.fails(InvalidRow, (asked,), desk.say, asked)
        self.same(desk.say(BEGUN), 'ok')

    def test_refused_behind_it(self):
        desk = self.desk(BEGUN, 'walk wgf')
        before = self.all_of(desk)
        for row, error, fields in self.REFUSED:
            self.fails(error, fields, desk.say, row)
            self.same(self.all_of(desk), before)
        self.same(desk.say('undo'), 'walk wgf')

    def test_a_new_one(self):
        desk = self.desk(BEGUN, 'walk wgf')
        again = '\n'.join(log_lines((('live', ('ba', (('is', 'a', 1, 2),)), (TENS, CAREFUL, 'a')),)))
        self.same([desk.say(again), desk.say('events'), desk.say('walk ab'), desk.say('ranges')], ['ok', '0', 'a', 'b@none a@1..2'])
        self.same([desk.say(BEGUN), desk.say('ranges')], ['ok', 'f@none g@none w@none'])
        self.fails(NothingToUndo, (0,), desk.say, 'undo')

    def test_more_than_twelve_steps(self):
        live = Live(('a', (('is', 'a', 0, 0),) * 14), (OUT, LATER, 'a'))
        desk = self.desk('\n'.join(log_lines(live.log())))
        self.same(desk.say('steps'), ' / '.join(['step is a 0 0'] * 14))

    def test_two_desks(self):
        one, two = self.desk(BEGUN, 'walk fgw'), self.desk(BEGUN)
        self.same([one.say('events'), two.say('events'), one.counts(), two.counts()], ['1', '0', (3, 3), (2, 2)])


class CountsTest(DeskCase):
    def test_each_call_counts_once(self):
        desk = Desk()
        self.same(desk.counts(), (0, 0))
        due = 0
        for row in ('events', 'visit f', '', BeginningTest.REFUSED[0][0], BEGUN, 'walk fgw', 'visit q', 'undo', 'undo', 'bars visit f',
                    'bars', 'log', 'sheet', BARE, BeginningTest.REFUSED[1][0], 'open'):
            try:
                desk.say(row)
            except ClimbError:
                pass
            due += 1
            self.same(desk.counts(), (due, due))
        self.same([desk.counts(), desk.counts()], [(due, due)] * 2)

    def test_methods_stand_in_the_class(self):
        for name in ('__init__', 'say', 'counts'):
            self.assertIn(name, vars(Desk))


if __name__ == '__main__':
    unittest.main()
