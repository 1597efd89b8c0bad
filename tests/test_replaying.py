"""[68] Logs, and live analyses that are led by them once more."""

import random
import unittest

from analysing import CHAIN, LATER, NO_EVENTS, WIDE, Slow, drawn_event, drawn_program, drawn_widening
from endclimbs.endvalues import End
from endclimbs.errors import InvalidEvent
from endclimbs.eventtexts import event_line
from endclimbs.lives import Live
from endclimbs.replaying import is_log, replayed
from endclimbs.rules import Rule
from samples import CAREFUL, ODD, TENS, Case

OUT = ((), ((('out', 0),) * 3,))
BEGUN = ('live', CHAIN, WIDE)
GOOD = (BEGUN, ('walk', 'fgw'), ('visit', 'w'), ('rule', 'low', CAREFUL), ('step', ('is', 'f', 0, 9)), ('back', 'g'))


class IsLogTest(Case):
    def test_logs(self):
        for log in ((BEGUN,), GOOD, GOOD * 1 + GOOD[1:] * 20, (('live', ('', ()), (OUT, OUT, '')),)):
            self.same(is_log(log), True)
        # The events may be possible or not.
        self.same(is_log(log_of(('visit', 'q'), ('drop', 10 ** 40), ('back', 'w'), ('step', ('is', 'z', 0, 0)))), True)
        self.same(is_log(thing=GOOD), True)

    def test_values_that_are_none(self):
        for thing in ODD + (None, 0, (), [], list(GOOD), GOOD[1:], BEGUN, (list(BEGUN),), (BEGUN[1:],), (BEGUN + (0,),), (BEGUN[:2],),
                            End(0), Live(CHAIN, WIDE), Rule.of(TENS), 'live', ('live',), (None,), (('live', None, None),)):
            self.same(is_log(thing), False)
        for begun in (('Live', CHAIN, WIDE), (None, CHAIN, WIDE), (['live'], CHAIN, WIDE), ('live', WIDE, CHAIN), ('live', list(CHAIN), WIDE),
                      ('live', ('ff', ()), (OUT, OUT, '')), ('live', ('f', (('is', 'g', 0, 0),)), (OUT, OUT, '')),
                      ('live', ('f', (('is', 'f', 1, 0),)), (OUT, OUT, '')), ('live', CHAIN, (LATER, LATER, 'wf')),
                      ('live', CHAIN, (LATER, LATER, 'x')), ('live', CHAIN, (LATER, None, 'w')), ('live', CHAIN, list(WIDE)),
                      ('live', CHAIN, (Rule.of(LATER), LATER, 'w')), ('live', CHAIN, (LATER, LATER, None))):
            self.same(is_log((begun,)), False)
            self.same(is_log((begun,) + GOOD[1:]), False)
        for event in NO_EVENTS + (BEGUN, (BEGUN,)):
            self.same(is_log((BEGUN, event)), False)
            self.same(is_log(GOOD + (event,)), False)
            self.same(is_log((BEGUN, event) + GOOD[1:]), False)


def log_of(*events):
    return (BEGUN,) + events


class LogTest(Case):
    def test_of_drawn_sessions(self):
        source = random.Random(39)
        failed = 0
        for _ in range(80):
            program = drawn_program(source)
            widening = drawn_widening(source, program[0])
            live, slow = Live(program, widening), Slow(program, widening)
            events = []
            for _ in range(source.randint(0, 20)):
                event = drawn_event(source, program[0])
                if slow.reason(event, len(events)) is None:
                    live.go(event)
                    slow.apply(event)
                    events.append(event)
                elif source.random() < 0.2:
                    failed += 1
                    self.fails(InvalidEvent, (event, slow.reason(event, len(events))), replayed,
                               live.log() + (event, ('visit', '?'), ('visit', 'q')))
            log = live.log()
            self.same(log, (('live', program, widening),) + tuple(events))
            self.same(is_log(log), True)
            self.same(str(live), ' / '.join([event_line(event) for event in events]) if events else '-')
            again = replayed(log)
            self.same([again == live, again.log(), again.counts()], [True, log, (0, 0)])
            self.same([again.ranges_now, again.phases_now], list(slow.now()))
            self.same([again.program_now, again.widening_now, again.sheet()], [slow.program, slow.widening, live.sheet()])
            for event in reversed(events):
                self.assertIs(again.undo(), event)
            self.same(again == Live(program, widening), True)
        self.assertGreater(failed, 20)

    def test_str(self):
        live = Live(CHAIN, WIDE)
        self.same(str(live), '-')
        live.walk('')
        self.same(str(live), 'walk -')
        live.set_rule('high', CAREFUL)
        live['f'] = (None, 5)
        self.same(str(live), 'walk - / rule high 5 take:1,take:0,out:0 out:1,take:0,out:0 / step is f - 5')

    def test_a_log_that_was_handed_out_and_later_events(self):
        live = Live(CHAIN, WIDE)
        live.walk('fgw')
        log = live.log()
        again = replayed(log)
        live.walk('w')
        again.visit('f')
        self.same([log, live.log(), again.log()], [log_of(('walk', 'fgw')), log_of(('walk', 'fgw'), ('walk', 'w')),
                                                  log_of(('walk', 'fgw'), ('visit', 'f'))])
        live.undo()
        live.undo()
        self.same([log, live.log(), again.counts()], [log_of(('walk', 'fgw')), log_of(), (1, 1)])

    def test_what_was_taken_back_is_in_no_log(self):
        live = Live(CHAIN, WIDE)
        live.walk('fgw')
        live.undo()
        live.visit('f')
        self.same([live.log(), replayed(live.log()) == live, str(live)], [log_of(('visit', 'f')), True, 'visit f'])


class ReplayedTest(Case):
    def test_refused_events(self):
        for event, reason in ((('visit', 'q'), 'name'), (('back', 'f'), 'none'), (('drop', 5), 'none')):
            self.fails(InvalidEvent, (event, reason), replayed, log_of(event, ('visit', 'z')))
            self.fails(InvalidEvent, (event, reason), replayed, log_of(('walk', 'w'), event))
        self.fails(InvalidEvent, (('walk', 'w'), 'full'), replayed, log_of(*[('walk', 'w')] * 41))
        self.same(len(replayed(log_of(*[('walk', 'w')] * 40))), 40)
        self.same([replayed(log=(BEGUN,)) == Live(CHAIN, WIDE), replayed((BEGUN,)).counts()], [True, (0, 0)])

    def test_a_new_one_each_time(self):
        one, two = replayed(GOOD[:3]), replayed(GOOD[:3])
        one.walk('f')
        self.same([len(one), len(two), one == two, two.counts()], [3, 2, False, (0, 0)])


if __name__ == '__main__':
    unittest.main()
