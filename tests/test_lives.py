"""[62] to [67] Live analyses: events, reasons, methods, what is asked, undo, and counts."""

import copy
import itertools
import random
import unittest

from analysing import CHAIN, LATER, NO_EVENTS, RULES, WIDE, Slow, drawn_event, drawn_program, drawn_widening
from endclimbs.analyses import analysed
from endclimbs.endvalues import End, Range
from endclimbs.errors import InvalidEvent, InvalidPaper, NothingToUndo, NotUsable
from endclimbs.liveevents import is_event
from endclimbs.lives import Live
from endclimbs.rules import Rule
from samples import CAREFUL, JUMPY, ODD, TENS, Case

FAR = 10 ** 40
OUT = ((), ((('out', 0),) * 3,))
TAKE = ((), ((('take', 0),) * 3,))
OBJECTS = (End(0), Range(0, 1), Rule.of(JUMPY))
EVENTS = (('visit', 'f'), ('walk', 'fgw'), ('walk', ''), ('walk', 'ww'), ('back', 'w'), ('step', ('is', 'w', 3, None)),
          ('step', ('plus', 'g', 'w', -FAR)), ('step', ('within', 'f', 'f', None, 3)), ('step', ('when', 'f', 'g', 0, 1, None, None)),
          ('drop', 0), ('drop', FAR), ('rule', 'low', TENS), ('rule', 'high', CAREFUL))


def cell(held):
    if held is None:
        return 'none'
    return '..'.join('-' if end is None else str(end) for end in held)


def slow_sheet(slow):
    ranges, phases = slow.now()
    return [' '.join((name, cell(held).ljust(12), str(low).rjust(2), str(high).rjust(2)))
            for name, held, (low, high) in zip(slow.program[0], ranges, phases)]


class LiveCase(Case):
    def compare(self, live, slow, events):
        """The live analysis stands as the slow one, behind these events."""
        ranges, phases = slow.now()
        self.same([live.program_now, live.widening_now, live.ranges_now, live.phases_now],
                  [slow.program, slow.widening, ranges, phases])
        names = slow.program[0]
        self.same(live.open_names(), slow.open_names())
        self.same([live.coming(name) for name in names], [slow.coming(name) for name in names])
        self.same([live[name] for name in names], list(ranges))
        self.same([name in live for name in names], [held is not None for held in ranges])
        self.same([list(live), len(live), live.sheet()], [list(names), len(events), slow_sheet(slow)])
        self.same(live.log(), (slow.begun,) + tuple(events))

    def all_of(self, live):
        return repr((live.program_now, live.widening_now, live.ranges_now, live.phases_now, live.log(), str(live), live.sheet()))


class ComparedTest(LiveCase):
    def test_drawn_sessions(self):
        source = random.Random(31)
        seen = {}
        for _ in range(60):
            program = drawn_program(source)
            widening = drawn_widening(source, program[0])
            live, slow, events, ahead = Live(program, widening), Slow(program, widening), [], []
            operations = 0
            for _ in range(45):
                event = drawn_event(source, program[0])
                reason = slow.reason(event, len(events))
                self.same(live.barred(event), reason)
                seen[event[0], reason] = seen.get((event[0], reason), 0) + 1
                operations += 1
                if reason is not None:
                    before = self.all_of(live)
                    self.refused(live.go, event, reason)
                    self.same(self.all_of(live), before)
                else:
                    ahead.append(copy.deepcopy(slow))
                    self.same(live.tried(event), self.behind(slow, event))
                    self.same(live.go(event), slow.apply(event))
                    events.append(event)
                if events and source.random() < 0.1:
                    operations += 1
                    self.assertIs(live.undo(), events.pop())
                    slow = ahead.pop()
                self.compare(live, slow, events)
                self.same(live.counts(), (operations, operations))
        for word, reasons in (('visit', (None, 'name')), ('walk', (None, 'name')), ('back', (None, 'name', 'none', 'open')),
                              ('step', (None, 'name', 'many')), ('drop', (None, 'none')), ('rule', (None,))):
            for reason in reasons:
                self.assertGreater(seen[word, reason], 8, (word, reason))

    def behind(self, slow, event):
        twin = copy.deepcopy(slow)
        twin.apply(event)
        return twin.now()[0]

    def refused(self, function, event, reason):
        with self.assertRaises(InvalidEvent) as caught:
            function(event)
        self.assertIs(caught.exception.event, event)
        self.same(caught.exception.reason, reason)

    def test_led_to_the_end_it_is_an_analysis(self):
        source = random.Random(32)
        over = 0
        for _ in range(120):
            program = drawn_program(source)
            widening = drawn_widening(source, program[0])
            order = ''.join(source.sample(program[0], len(program[0])))
            live = Live(program, widening)
            while live.open_names() and len(live) < 40:
                live.walk(order)
            if live.open_names() == '':
                over += 1
                self.same(live.ranges_now, analysed(program, widening, order, most=len(live)))
        self.assertGreater(over, 60)


class EventTest(LiveCase):
    def test_is_event(self):
        for event in EVENTS + (('visit', 'q'), ('walk', 'xyz' * 99), ('back', 'z'), ('step', ('is', 'q', None, None))):
            self.same(is_event(event), True)
            self.same([is_event(list(event)), is_event(event + (0,)), is_event(event[:-1]), is_event((event,))], [False] * 4)
        for thing in NO_EVENTS + ODD + OBJECTS + (Live(CHAIN, WIDE), (Rule.of(JUMPY), 'a'), (End(0), 0), ('rule', 'low', OBJECTS[2])):
            self.same(is_event(thing), False)
        self.same(is_event(thing=('drop', 0)), True)

    def test_shape(self):
        live = Live(CHAIN, WIDE)
        for thing in NO_EVENTS + ODD + OBJECTS + (live,):
            self.same(live.barred(thing), 'shape')
            with self.assertRaises(InvalidEvent) as caught:
                live.go(thing)
            self.assertIs(caught.exception.event, thing)
            self.same(caught.exception.reason, 'shape')
        self.same([len(live), live.log()], [0, (('live', CHAIN, WIDE),)])

    def test_visit_and_walk(self):
        live = Live(CHAIN, WIDE)
        self.same([live.visit('g'), live.visit('f'), live.visit('f'), live.visit('g'), live.ranges_now],
                  ['', 'f', '', 'g', ((5, 5), (7, 7), None)])
        live = Live(CHAIN, WIDE)
        self.same([live.walk(''), live.walk('gf'), live.walk('gwfw'), live.walk('w'), live.ranges_now, live.phases_now],
                  ['', 'f', 'gw', '', ((5, 5), (7, 7), (0, 7)), ((0, 0), (0, 0), (0, 0))])
        # The answer tells the names in the order of the program, those that changed back among none.
        live = Live(CHAIN, WIDE)
        self.same([live.walk('wgf'), live.walk('wgf'), live.walk('wwww'), live['w']], ['fw', 'gw', 'w', (0, None)])

    def test_back(self):
        live = Live(CHAIN, WIDE)
        live.walk('wfgw')
        live.walk('w')
        self.same([live['w'], live.phases_now[2]], [(0, 7), (0, 1)])
        self.same(live.back('w'), '')
        live.add_step(('is', 'w', 0, 9))
        self.fails(InvalidEvent, (('back', 'w'), 'open'), live.back, 'w')
        self.same([live.visit('w'), live.drop_step(5), live.back('w'), live['w'], live.phases_now[2]], ['w', '', 'w', (0, 7), (0, 1)])
        self.fails(InvalidEvent, (('back', 'q'), 'name'), live.back, 'q')
        live.drop_step(0)
        # Nothing comes in at f any more, but it has a range.
        self.same([live['f'], live.coming('f')], [(5, 5), None])
        self.fails(InvalidEvent, (('back', 'f'), 'none'), live.back, 'f')
        bare = Live(('a', (('is', 'a', 0, 0),)), (OUT, OUT, ''))
        self.fails(InvalidEvent, (('back', 'a'), 'none'), bare.back, 'a')
        self.same([bare.visit('a'), bare.back('a')], ['a', ''])

    def test_steps(self):
        live = Live(CHAIN, WIDE)
        live.walk('fgw')
        step = ('when', 'f', 'w', 0, 0, -5, -5)
        self.same([live.add_step(step), live.program_now, live.ranges_now], ['', ('fgw', CHAIN[1] + (step,)), ((5, 5), (7, 7), (0, 7))])
        self.same([live.drop_step(1), live.program_now], ['', ('fgw', CHAIN[1][:1] + CHAIN[1][2:] + (step,))])
        self.same([live.open_names(), live.visit('f'), live['f'], live['g'], live.coming('g')], ['f', 'f', (-5, 5), (7, 7), None])
        for k in (5, 6, FAR):
            self.fails(InvalidEvent, (('drop', k), 'none'), live.drop_step, k)
        for step, name in ((('is', 'q', 0, 0), 'q'), (('plus', 'q', 'f', 0), 'q'), (('within', 'f', 'q', 0, 0), 'q')):
            self.fails(InvalidEvent, (('step', step), 'name'), live.add_step, step)

    def test_twelve_steps(self):
        live = Live(('a', ()), (OUT, OUT, 'a'))
        for k in range(12):
            self.same([live.add_step(('is', 'a', k, k)), len(live.program_now[1])], ['', k + 1])
        step = ('is', 'a', 9, 9)
        self.fails(InvalidEvent, (('step', step), 'many'), live.add_step, step)
        self.same([live.drop_step(0), live.add_step(step), live.program_now[1][-1]], ['', '', step])
        self.same(live.barred(('step', step)), 'many')
        # A program may begin with more.
        more = Live(('a', (step,) * 14), (OUT, OUT, ''))
        self.same([more.barred(('step', step)), more.drop_step(13), more.drop_step(0), more.barred(('step', step))],
                  ['many', '', '', 'many'])
        self.same([more.drop_step(0), more.barred(('step', step))], ['', None])
        # The letter comes first.
        self.same(live.barred(('step', ('is', 'q', 0, 0))), 'name')

    def test_rules(self):
        live = Live(CHAIN, (LATER, LATER, 'fw'))
        live.add_step(('plus', 'f', 'f', -1))
        for _ in range(3):
            live.walk('wgf')
        self.same(live.phases_now, ((1, 0), (0, 0), (0, 1)))
        self.same([live.set_rule('high', TAKE), live.phases_now, live.widening_now], ['', ((1, 0), (0, 0), (0, 0)), (LATER, TAKE, 'fw')])
        self.same([live.set_rule('low', OUT), live.phases_now, live.widening_now], ['', ((0, 0),) * 3, (OUT, TAKE, 'fw')])
        self.same(live.log()[0], ('live', CHAIN, (LATER, LATER, 'fw')))

    def test_forty_events(self):
        live = Live(CHAIN, WIDE)
        for k in range(40):
            self.same(live.walk('f'), 'f' if k == 0 else '')
        for event in (('visit', 'f'), ('walk', ''), ('visit', 'q'), ('drop', 99), ('back', 'g'), ('rule', 'low', TENS)):
            self.same(live.barred(event), 'full')
            self.fails(InvalidEvent, (event, 'full'), live.go, event)
        for thing in (None, ('visit', 5), ('walks', '')):
            self.same(live.barred(thing), 'shape')
            self.fails(InvalidEvent, (thing, 'shape'), live.go, thing)
        self.same([len(live), live.undo(), live.barred(('visit', 'q')), live.visit('g'), live.barred(('visit', 'q'))],
                  [40, ('walk', 'f'), 'name', 'g', 'full'])

    def test_two_reasons_at_once(self):
        live = Live(('ab', (('is', 'a', 0, 0),) * 12), (OUT, OUT, ''))
        self.same(live.barred(('step', ('plus', 'a', 'q', 0))), 'name')
        self.same(live.barred(('back', 'q')), 'name')
        # Without a range that does not lie within either.
        self.same(live.barred(('back', 'a')), 'none')
        self.same(live.barred(('back', 'b')), 'none')
        self.same(live.barred(('walk', 'aqb')), 'name')


class MakingTest(LiveCase):
    def test_at_first(self):
        for program, widening in ((CHAIN, WIDE), (('', ()), (TENS, OUT, '')), (('zab', ()), (OUT, TENS, 'zb'))):
            live = Live(program, widening)
            self.compare(live, Slow(program, widening), [])
            self.same([live.counts(), str(live)], [(0, 0), '-'])
            self.same(Live(program=program, widening=widening) == live, True)
        self.same([Live.MOST, Live.STEPS, live.MOST, live.STEPS], [40, 12, 40, 12])

    def test_values_that_live_refuses(self):
        bad = ((None, 'shape', -1), ('fgw', 'shape', -1), (list(CHAIN), 'shape', -1), (('fgw', list(CHAIN[1])), 'shape', -1),
               (('ff', ()), 'names', -1), (('F', ()), 'names', -1), (('f', (None, ('is', 'g', 0, 0))), 'step', 0),
               (('f', (('is', 'f', 0, 0), ('is', 'g', 0, 0), None)), 'name', 1), (('f', (('is', 'g', 1, 0),)), 'step', 0))
        widenings = (WIDE, None, 0, (LATER, LATER, 'x'), list(WIDE), WIDE[:2])
        for program, word, at in bad:
            for widening in widenings:
                self.fails(InvalidPaper, (word, at), Live, program, widening)
        for widening in ODD + OBJECTS + widenings[1:] + ((LATER, LATER, 'wf'), (LATER, LATER, 'ww'), (None, LATER, 'w'),
                                                         (LATER, ((5, 5), LATER[1]), 'w'), (LATER, OBJECTS[2], 'w'),
                                                         (LATER, LATER, ('w',)), (LATER, LATER, None)):
            self.fails(NotUsable, ('widening', -1), Live, CHAIN, widening)

    def test_methods_stand_in_the_class(self):
        names = '''__init__ __call__ __setitem__ __getitem__ __contains__ __iter__ __len__ __eq__ __str__ program_now
            widening_now ranges_now phases_now visit walk back add_step drop_step set_rule go barred coming open_names sheet
            tried undo do_all counts log MOST STEPS'''
        for name in names.split():
            self.assertIn(name, vars(Live))


class MethodTest(LiveCase):
    def test_each_method_applies_its_event(self):
        ways = {'visit': lambda live, *parts: live.visit(*parts), 'walk': lambda live, *parts: live.walk(*parts),
                'back': lambda live, *parts: live.back(*parts), 'step': lambda live, *parts: live.add_step(*parts),
                'drop': lambda live, *parts: live.drop_step(*parts), 'rule': lambda live, *parts: live.set_rule(*parts)}
        source = random.Random(33)
        for _ in range(40):
            program = drawn_program(source)
            widening = drawn_widening(source, program[0])
            lives = [Live(program, widening) for _ in range(3)]
            for _ in range(20):
                event = drawn_event(source, program[0])
                if lives[0].barred(event) is None:
                    answers = [lives[0].go(event), lives[1](event), ways[event[0]](lives[2], *event[1:])]
                    self.same(answers, answers[:1] * 3)
                else:
                    reason = lives[0].barred(event)
                    self.fails(InvalidEvent, (event, reason), lives[0].go, event)
                    self.fails(InvalidEvent, (event, reason), lives[1], event)
                    self.fails(InvalidEvent, (event, reason), ways[event[0]], lives[2], *event[1:])
                self.same([self.all_of(live) for live in lives], [self.all_of(lives[0])] * 3)
                self.same([live.counts() for live in lives], [lives[0].counts()] * 3)
                self.same([lives[0] == lives[1], lives[1] == lives[2]], [True, True])

    def test_any_values(self):
        live = Live(CHAIN, WIDE)
        for thing in ODD + (None, 0, -1, 'fg', 'F') + OBJECTS:
            for method, word in ((live.visit, 'visit'), (live.back, 'back'), (live.add_step, 'step'), (live.walk, 'walk'),
                                 (live.drop_step, 'drop')):
                event = (word, thing)
                if not is_event(event):
                    self.fails(InvalidEvent, (event, 'shape'), method, thing)
            self.fails(InvalidEvent, (('rule', thing, TENS), 'shape'), live.set_rule, thing, TENS)
            self.fails(InvalidEvent, (('rule', 'low', thing), 'shape'), live.set_rule, 'low', thing)
        self.same(len(live), 0)

    def test_by_name(self):
        live = Live(CHAIN, WIDE)
        answers = [live.visit(name='f'), live.walk(names='wg'), live.back(name='f'), live.add_step(step=('is', 'f', 5, 5)),
                   live.drop_step(k=5), live.set_rule(side='low', rule=TENS), live.go(event=('visit', 'f')), live(event=('walk', ''))]
        self.same(answers, ['f', 'gw', '', '', '', '', '', ''])
        self.same([live.barred(event=('visit', 'q')), live.coming(name='f'), live.do_all(('visit', 'f'), keep=True)],
                  ['name', (5, 5), 1])

    def test_setting_ranges(self):
        live = Live(CHAIN, WIDE)
        live['f'] = (1, 9)
        live['g'] = (None, None)
        self.same(live.log()[1:], (('step', ('is', 'f', 1, 9)), ('step', ('is', 'g', None, None))))
        live.walk('fgw')
        live.drop_step(5)
        live['f'] = None
        self.same([live.log()[-1], live['f'], live['w']], [('back', 'f'), (5, 5), (None, None)])
        self.same(live.counts(), (5, 5))

    def test_setting_other_values(self):
        live = Live(CHAIN, WIDE)

        def put(name, what):
            live[name] = what

        before = self.all_of(live)
        for what in ODD + (0, 5, 'fg', [0, 1], [None, None], (0,), (0, 1, 2), {}, (0, 1, None)) + OBJECTS + (live,):
            if not (type(what) is tuple and len(what) == 2):
                for name in ('f', 'q', None, 5, (), 'fg'):
                    self.fails(NotUsable, ('what', -1), put, name, what)
        for what in ((0, -1), (True, 1), ('a', 'b'), (None, False), ((), ()), (End(0), End(1)), ([0], [1])):
            for name in ('f', 'q', None, 5, (), 'fg'):
                self.fails(InvalidEvent, (('step', ('is', name) + what), 'shape'), put, name, what)
        for name in (None, True, 5, '', 'fg', 'F', (), [], ('f',), End(0)):
            self.fails(InvalidEvent, (('step', ('is', name, 0, 1)), 'shape'), put, name, (0, 1))
            self.fails(InvalidEvent, (('back', name), 'shape'), put, name, None)
        self.fails(InvalidEvent, (('step', ('is', 'q', 0, 1)), 'name'), put, 'q', (0, 1))
        self.fails(InvalidEvent, (('back', 'q'), 'name'), put, 'q', None)
        self.fails(InvalidEvent, (('back', 'f'), 'none'), put, 'f', None)
        self.same(self.all_of(live), before)


class AskedTest(LiveCase):
    def test_values_that_are_no_names(self):
        live = Live(CHAIN, WIDE)
        live.walk('fgw')
        for name in ODD + (None, 0, 'q', 'fg', 'gw', 'F', ('f',), ['f'], 'f\n') + OBJECTS:
            self.fails(NotUsable, ('name', -1), lambda: live[name])
            self.fails(NotUsable, ('name', -1), live.coming, name)
            self.same(name in live, False)
        bare = Live(('', ()), (OUT, OUT, ''))
        for name in ('', 'f'):
            self.fails(NotUsable, ('name', -1), lambda: bare[name])
            self.same(name in bare, False)
        self.same([list(bare), bare.sheet(), bare.open_names(), bare.walk(''), len(bare)], [[], [], '', '', 1])

    def test_in(self):
        live = Live(CHAIN, WIDE)
        self.same([name in live for name in 'fgw'], [False] * 3)
        live.walk('gf')
        self.same([name in live for name in 'fgw'], [True, False, False])

    def test_the_range_of_each_name(self):
        names = 'zabyc'
        live = Live((names, tuple(('is', name, k, 2 * k) for k, name in enumerate(names))), (OUT, OUT, ''))
        for gone in range(len(names) + 1):
            self.same([live[name] for name in names], [(k, 2 * k) if k < gone else None for k in range(len(names))])
            self.same([name in live for name in names], [k < gone for k in range(len(names))])
            self.same(live.ranges_now, tuple(live[name] for name in live))
            if gone < len(names):
                live.visit(names[gone])

    def test_iteration(self):
        live = Live(('zab', ()), (OUT, OUT, ''))
        live.visit('a')
        self.same([list(live), tuple(live), [name for name in live], len(live)], [['z', 'a', 'b'], ('z', 'a', 'b'), ['z', 'a', 'b'], 1])

    def test_sheet(self):
        live = Live(('abcd', ()), (OUT, OUT, 'ab'))
        live.walk('abcd')
        self.same(live.sheet(), [f'{name} none          0  0' for name in 'abcd'])
        live['a'] = (None, 123456789012)
        live['b'] = (-3, 4)
        live.walk('abcd')
        self.same(live.sheet()[:3], ['a -..123456789012  0  0', 'b -3..4         0  0', 'c none          0  0'])
        many = tuple((('take', k + 1),) * 3 for k in range(11)) + ((('take', 11),) * 3,)
        live = Live(('a', (('is', 'a', 0, 0), ('plus', 'a', 'a', 1))), (OUT, ((), many), 'a'))
        for _ in range(12):
            live.visit('a')
        self.same(live.sheet(), ['a 0..11         0 11'])
        live = Live(('a', (('is', 'a', 0, 0), ('plus', 'a', 'a', -1))), (((), many), OUT, 'a'))
        for _ in range(12):
            live.visit('a')
        self.same(live.sheet(), ['a -11..0       11  0'])
        told = live.sheet()
        told.append('x')
        self.same(len(live.sheet()), 1)

    def test_coming_and_open_names(self):
        live = Live(CHAIN, WIDE)
        self.same([live.open_names(), live.coming('g'), live.coming('w')], ['fw', None, (0, 0)])
        live.walk('wgf')
        self.same([live.open_names(), live.coming('g'), live.coming('w')], ['gw', (7, 7), (0, 5)])

    def test_tried(self):
        live = Live(CHAIN, WIDE)
        before = self.all_of(live), live.counts()
        self.same(live.tried(), (None, None, None))
        self.same(live.tried(('walk', 'fgw'), ('visit', 'w')), ((5, 5), (7, 7), (0, 7)))
        self.same(live.tried(('step', ('is', 'g', 0, 0)), ('drop', 0), ('walk', 'gwf')), (None, (0, 0), (0, 0)))
        self.fails(InvalidEvent, (('back', 'f'), 'none'), live.tried, ('back', 'f'), None)
        self.fails(InvalidEvent, (None, 'shape'), live.tried, ('visit', 'f'), None, ('back', 'f'))
        self.fails(InvalidEvent, (('visit', 'q'), 'full'), live.tried, *[('walk', '')] * 40, ('visit', 'q'))
        self.same(live.tried(*[('walk', 'fgw')] * 40), ((5, 5), (7, 7), (0, 7)))
        self.same((self.all_of(live), live.counts()), before)
        live.walk('')
        self.fails(InvalidEvent, (('walk', 'f'), 'full'), live.tried, *[('walk', 'f')] * 40)

    def test_barred(self):
        live = Live(CHAIN, WIDE)
        live.walk('wgf')
        for event, reason in ((('back', 'w'), 'open'), (('back', 'g'), 'none'), (('back', 'f'), None), (('drop', 4), None),
                              (('drop', 5), 'none'), (('visit', 'q'), 'name'), (None, 'shape'), (('walk', ''), None)):
            self.same(live.barred(event), reason)
        self.same([len(live), live.counts()], [1, (1, 1)])


class EqualTest(LiveCase):
    def test_equal_and_unlike_logs(self):
        one, two = Live(CHAIN, WIDE), Live(CHAIN, WIDE)
        self.same([one == two, one != two], [True, False])
        one.walk('fgw')
        self.same([one == two, one != two], [False, True])
        for name in 'fgw':
            two.visit(name)
        # The same ranges by other events.
        self.same([one.ranges_now == two.ranges_now, one == two], [True, False])
        for _ in range(3):
            two.undo()
        two.walk('fgw')
        self.same([one == two, one.counts() == two.counts()], [True, False])
        self.fails(InvalidEvent, (('visit', 'q'), 'name'), one.visit, 'q')
        self.same(one == two, True)

    def test_other_beginnings_and_values(self):
        live = Live(CHAIN, WIDE)
        for other in (Live(CHAIN, (LATER, LATER, 'fw')), Live(CHAIN, (TENS, LATER, 'w')), Live(('fg', ()), (LATER, LATER, '')),
                      Live(('gfw', CHAIN[1]), WIDE)):
            self.same([live == other, live != other], [False, True])
        for other in ODD + (None, 0, live.log(), str(live), CHAIN) + OBJECTS:
            self.same([live == other, other == live, live != other], [False, False, True])
        # A step that was added is none of the beginning.
        grown, whole = Live(('a', ()), (OUT, OUT, '')), Live(('a', (('is', 'a', 0, 0),)), (OUT, OUT, ''))
        grown['a'] = (0, 0)
        self.same([grown.program_now == whole.program_now, grown == whole], [True, False])


class UndoTest(LiveCase):
    def test_down_to_the_beginning_and_once_more(self):
        source = random.Random(34)
        for _ in range(30):
            program = drawn_program(source)
            widening = drawn_widening(source, program[0])
            live, seen = Live(program, widening), []
            for _ in range(25):
                event = drawn_event(source, program[0])
                if live.barred(event) is None:
                    seen.append((event, self.all_of(live)))
                    live.go(event)
            operations = len(seen)
            for event, before in reversed(seen):
                self.assertIs(live.undo(), event)
                self.same(self.all_of(live), before)
            self.same(live == Live(program, widening), True)
            for _ in range(2):
                self.fails(NothingToUndo, (0,), live.undo)
            self.same([live.counts(), len(live)], [(2 * operations + 2,) * 2, 0])

    def test_redone(self):
        live = Live(CHAIN, WIDE)
        live.walk('wgf')
        event = live.undo()
        self.same([event, live.go(event), live.undo(), str(live)], [('walk', 'wgf'), 'fw', ('walk', 'wgf'), '-'])


class DoAllTest(LiveCase):
    GOOD = (('walk', 'fgw'), ('rule', 'high', OUT), ('visit', 'w'))

    def test_all_of_them(self):
        for keep in (False, True):
            live = Live(CHAIN, WIDE)
            self.same([live.do_all(*self.GOOD, keep=keep), live.log()[1:], live.counts()], [3, self.GOOD, (1, 1)])
            self.same([live.do_all(keep=keep), live.do_all(), len(live), live.counts()], [0, 0, 3, (3, 3)])
            other = Live(CHAIN, WIDE)
            for event in self.GOOD:
                other(event)
            self.same([live == other, live.undo(), live.undo(), live['w']], [True, self.GOOD[2], self.GOOD[1], (0, 7)])

    def test_one_that_fails(self):
        for bad, reason in ((None, 'shape'), (('visit', 'q'), 'name'), (('drop', 9), 'none'), (('back', 'w'), 'open')):
            for place in range(4):
                ahead, behind = self.GOOD[:place], self.GOOD[place:]
                if reason == 'open' and place == 0:
                    continue
                more = (('step', ('is', 'w', 99, 99)),) if reason == 'open' else ()
                events = ahead + more + (bad,) + behind + (None, ('visit', 'x'))
                live = Live(CHAIN, WIDE)
                live.visit('f')
                before = self.all_of(live)
                for keep in ({}, {'keep': False}):
                    self.fails(InvalidEvent, (bad, reason), live.do_all, *events, **keep)
                    self.same(self.all_of(live), before)
                self.fails(InvalidEvent, (bad, reason), live.do_all, *events, keep=True)
                self.same([live.log()[2:], live.counts()], [ahead + more, (4, 4)])

    def test_full(self):
        events = [('walk', '')] * 41
        live = Live(CHAIN, WIDE)
        self.fails(InvalidEvent, (('walk', ''), 'full'), live.do_all, *events)
        self.same(len(live), 0)
        self.fails(InvalidEvent, (('walk', ''), 'full'), live.do_all, *events, keep=True)
        self.same([len(live), live.counts()], [40, (2, 2)])


class CountsTest(LiveCase):
    def test_behind_each_operation(self):
        live = Live(CHAIN, WIDE)
        due = 0

        def put(name, what):
            live[name] = what

        for operate in (lambda: live.visit('f'), lambda: live.walk('fgw'), lambda: live.back('w'), lambda: live.add_step(('is', 'f', 0, 9)),
                        lambda: live.drop_step(5), lambda: live.set_rule('low', TENS), lambda: live.go(('walk', '')),
                        lambda: live(('visit', 'w')), lambda: put('f', (0, 1)), lambda: put('w', None), live.undo,
                        lambda: live.do_all(('visit', 'f'), ('visit', 'g'))):
            operate()
            due += 1
            self.same(live.counts(), (due, due))
        for operate in (lambda: live.visit('q'), lambda: live.walk(5), lambda: live.back(None), lambda: live.add_step(()),
                        lambda: live.drop_step(99), lambda: live.set_rule('x', TENS), lambda: live.go(None), lambda: live(()),
                        lambda: put('f', 5), lambda: put('q', None), lambda: put(None, (0, 1)), lambda: live.do_all(None),
                        lambda: live.do_all(('visit', 'f'), None, keep=True)):
            with self.assertRaises((InvalidEvent, NotUsable)):
                operate()
            due += 1
            self.same(live.counts(), (due, due))

    def test_what_only_asks(self):
        live = Live(CHAIN, WIDE)
        live.walk('wgf')
        before = self.all_of(live)
        (live.barred(None), live.barred(('visit', 'f')), live.coming('f'), live.open_names(), live.sheet(), live.tried(('visit', 'w')),
         live.counts(), live.log(), str(live), len(live), list(live), live['f'], 'f' in live, live == live, live != 5,
         live.program_now, live.widening_now, live.ranges_now, live.phases_now)
        for ask in (lambda: live['q'], lambda: live.coming(5)):
            self.fails(NotUsable, ('name', -1), ask)
        self.fails(InvalidEvent, (None, 'shape'), live.tried, None)
        self.same([live.counts(), self.all_of(live)], [(1, 1), before])

    def test_properties_cannot_be_set(self):
        live = Live(CHAIN, WIDE)
        for name in ('program_now', 'widening_now', 'ranges_now', 'phases_now'):
            with self.assertRaises(AttributeError):
                setattr(live, name, ())


class KeptTest(LiveCase):
    def test_what_was_handed_out_does_not_change(self):
        live = Live(CHAIN, WIDE)
        live.walk('wgf')
        told = [live.log(), live.ranges_now, live.phases_now, live.program_now, live.widening_now, live.sheet(), live.counts()]
        copied = copy.deepcopy(told)
        for event in (('walk', 'wgf'), ('step', ('is', 'f', 0, 0)), ('rule', 'low', OUT), ('drop', 0)):
            live(event)
        self.same(told, copied)

    def test_two_of_one_program_do_not_touch_one_another(self):
        one, two = Live(CHAIN, WIDE), Live(CHAIN, WIDE)
        one.walk('fgw')
        one['f'] = (0, 0)
        self.same([two.ranges_now, two.program_now, two.counts(), len(two)], [(None,) * 3, CHAIN, (0, 0), 0])
        for rule in itertools.islice(RULES, 5):
            one.set_rule('high', rule)
        self.same(two.widening_now, WIDE)


if __name__ == '__main__':
    unittest.main()
