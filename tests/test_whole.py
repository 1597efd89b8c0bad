"""What holds over the whole program: guarantee (E5) of [10], and points [1] to [11]."""

import copy
import random
import unittest

from analysing import CHAIN, RULES, WIDE, drawn_event, drawn_program, drawn_widening, made_analyses
from endclimbs import (alikeness, analyses, backing, choosing, climbing, excesses, joint, onsteps, overchecker, overtaking, programs,
                       resting, rounds, rulechanges, spots, stepping)
from endclimbs.analyses import all_results, analysed, is_closed, least_ranges, walks_of
from endclimbs.alikeness import are_alike
from endclimbs.desk import Desk
from endclimbs.duels import Duel
from endclimbs.errors import ClimbError, InvalidEvent, Restless
from endclimbs.eventreadings import read_event, read_log
from endclimbs.eventtexts import event_line, log_lines
from endclimbs.lives import Live
from endclimbs.overtaking import above_row
from endclimbs.replaying import is_log, replayed
from endclimbs.resting import rests
from endclimbs.rounds import greatest_rounds, most_rounds
from endclimbs.rulechanges import shifted
from endclimbs.stepping import end_on
from samples import CAREFUL, JUMPY, TENS, Case
from twins import WAYS

FAR = 10 ** 40


def outcome(function, *args, **named):
    """What a call returns, or its error."""
    try:
        return function(*args, **named)
    except ClimbError as error:
        return type(error).__name__, tuple(vars(error).values())


def moved_end(end, by):
    return None if end is None else end + by


def moved_range(held, by):
    return None if held is None else tuple(moved_end(end, by) for end in held)


def moved_step(step, by):
    """A step by which all that comes in is greater by by, if the ranges are."""
    if step[0] == 'plus':
        return step
    ahead = 2 if step[0] == 'is' else 3
    return step[:ahead] + tuple(moved_end(end, by) for end in step[ahead:])


def moved_program(program, by):
    return program[0], tuple(moved_step(step, by) for step in program[1])


def moved_widening(widening, by):
    # The low ends are negated when they come in at their rule.
    return shifted(widening[0], -by), shifted(widening[1], by), widening[2]


def moved_event(event, by):
    if event[0] == 'step':
        return 'step', moved_step(event[1], by)
    if event[0] == 'rule':
        return 'rule', event[1], shifted(event[2], -by if event[1] == 'low' else by)
    return event


class MovedTest(Case):
    def test_analyses(self):
        for k, (program, widening, order) in enumerate(made_analyses(200, 261)):
            by = (FAR, -3, 7)[k % 3]
            moved = moved_program(program, by), moved_widening(widening, by), order
            self.same(outcome(walks_of, *moved), outcome(walks_of, program, widening, order))
            told = outcome(analysed, program, widening, order)
            if told[:1] != ('Restless',):
                self.same(analysed(*moved), tuple(moved_range(held, by) for held in told))
                self.same(is_closed(moved[0], analysed(*moved)), True)
            least = outcome(least_ranges, program)
            if least[:1] != ('Restless',):
                self.same(least_ranges(moved[0]), tuple(moved_range(held, by) for held in least))

    def test_live_analyses(self):
        source = random.Random(41)
        for k in range(40):
            by = (FAR, -5)[k % 2]
            program = drawn_program(source)
            widening = drawn_widening(source, program[0])
            live, moved = Live(program, widening), Live(moved_program(program, by), moved_widening(widening, by))
            for _ in range(25):
                event = drawn_event(source, program[0])
                told, due = outcome(moved.go, moved_event(event, by)), outcome(live.go, event)
                self.same(told if isinstance(told, str) else told[1][1], due if isinstance(due, str) else due[1][1])
                self.same(moved.ranges_now, tuple(moved_range(held, by) for held in live.ranges_now))
                self.same([moved.phases_now, moved.open_names()], [live.phases_now, live.open_names()])

    def test_rules(self):
        for rule in RULES[:60]:
            moved = shifted(rule, FAR)
            self.same([rests(moved), most_rounds(moved, FAR + 1), greatest_rounds(moved)],
                      [rests(rule), most_rounds(rule, 1), greatest_rounds(rule)])


class SidesTest(Case):
    def test_two_programs_side_by_side_as_one(self):
        source = random.Random(42)
        seen = 0
        for k in range(150):
            one, two = drawn_program(source, 3, 6), drawn_program(source, 2, 6)
            letters = {letter: other for letter, other in zip('abcdefghijklmnopqrstuvwxyz', 'nopqrstuvwxyzabcdefghijklm')}
            if set(one[0]) & set(two[0]):
                two = renamed(two, letters)
            if set(one[0]) & set(two[0]):
                continue
            widening = drawn_widening(source, one[0] + two[0])
            both = (one[0] + two[0], mixed(one[1], two[1], source))
            order = ''.join(source.sample(both[0], len(both[0])))
            parts = [(part, widening[:2] + (''.join(name for name in widening[2] if name in part[0]),),
                      ''.join(name for name in order if name in part[0])) for part in (one, two)]
            told = [outcome(walks_of, *part) for part in parts]
            if all(isinstance(walks, int) for walks in told):
                seen += 1
                # The one that is over goes on: its walks may let ranges grow, if a name is widened, no more.
                self.judge(both, widening, order, parts, told)
        self.assertGreater(seen, 60)

    def judge(self, both, widening, order, parts, told):
        self.same(walks_of(both, widening, order), max(told))
        self.same(analysed(both, widening, order), analysed(*parts[0]) + analysed(*parts[1]))
        live = Live(both, widening)
        lives = [Live(part, own) for part, own, _ in parts]
        for name in order * 3:
            answers = [one.visit(name) for one in lives if name in one.program_now[0]]
            self.same([live.visit(name)], answers)
            self.same(live.ranges_now, lives[0].ranges_now + lives[1].ranges_now)
            self.same(live.phases_now, lives[0].phases_now + lives[1].phases_now)


def renamed(program, letters):
    steps = tuple((word,) + tuple(letters[part] if isinstance(part, str) else part for part in parts) for word, *parts in program[1])
    return ''.join(letters[name] for name in program[0]), steps


def mixed(steps, others, source):
    """The steps of both, each in their order."""
    sides = [0] * len(steps) + [1] * len(others)
    source.shuffle(sides)
    rows = [iter(steps), iter(others)]
    return tuple(next(rows[side]) for side in sides)


class AlikeTest(Case):
    def test_alike_rules_in_each_place(self):
        source = random.Random(43)
        for program, widening, order in made_analyses(150, 262):
            twin = tuple(source.choice(WAYS)(rule, source) for rule in widening[:2]) + widening[2:]
            self.assertTrue(are_alike(twin[0], widening[0]) and are_alike(twin[1], widening[1]))
            self.same(outcome(analysed, program, twin, order), outcome(analysed, program, widening, order))
            self.same(outcome(walks_of, program, twin, order), outcome(walks_of, program, widening, order))
            one, two = Live(program, widening), Live(program, twin)
            for _ in range(6):
                self.same([one.walk(order), one.ranges_now, one.open_names()], [two.walk(order), two.ranges_now, two.open_names()])

    def test_equal_parts_of_alike_rules(self):
        source = random.Random(44)
        for rule in RULES[:60]:
            twin = source.choice(WAYS)(rule, source)
            for other in (CAREFUL, JUMPY, TENS):
                ours, theirs = above_row(rule, other, (0, 6)), above_row(twin, other, (0, 6))
                self.same(ours and len(ours), theirs and len(theirs))
                self.same(Duel(rule, other).likeness, Duel(twin, other).likeness)
            program = (((None, 0), (0, 2), (2, 4), (4, 5)), 0)
            self.same(outcome(end_on, rule, program), outcome(end_on, twin, program))


class LedTest(Case):
    def test_the_same_by_a_desk_and_by_a_live_analysis(self):
        for program, widening, order in made_analyses(60, 263):
            live, desk = Live(program, widening), Desk()
            desk.say('\n'.join(log_lines(live.log())))
            walks = outcome(walks_of, program, widening, order)
            for _ in range(min(40, walks) if isinstance(walks, int) else 20):
                self.same(desk.say('walk ' + order), live.walk(order) or '-')
            self.same(desk.say('log'), str(live))
            if isinstance(walks, int) and walks <= 40:
                self.same([desk.say('open'), live.ranges_now], ['-', analysed(program, widening, order)])

    def test_an_analysis_that_is_over_holds_all_that_comes_in(self):
        seen = 0
        for program, widening, order in made_analyses(150, 264):
            live = Live(program, widening)
            while live.open_names() and len(live) < 40:
                live.walk(order)
            if live.open_names() == '':
                seen += 1
                self.same(is_closed(program, live.ranges_now), True)
                self.same([live.barred(('back', name)) in (None, 'none') for name in live], [True] * len(program[0]))
                again = replayed(read_log(log_lines(live.log())))
                self.same([again == live, again.ranges_now, again.counts()], [True, live.ranges_now, (0, 0)])
        self.assertGreater(seen, 80)

    def test_texts_there_and_back(self):
        source = random.Random(45)
        for _ in range(60):
            program = drawn_program(source)
            live = Live(program, drawn_widening(source, program[0]))
            for _ in range(15):
                event = drawn_event(source, program[0])
                self.same(read_event(event_line(event)), event)
                outcome(live.go, event)
            self.same([is_log(live.log()), read_log(log_lines(live.log())) == live.log()], [True, True])
            self.same(replayed(live.log()).sheet(), live.sheet())
            self.same(str(live).split(' / ') if len(live) else [], [event_line(event) for event in live.log()[1:]])


class UnchangedTest(Case):
    """What is handed in does not change, and what is handed out is of the stated kind and the same each time."""

    def calls(self):
        back, program, span = (1, 'take', 'down', 'keep'), (((None, 0), (0, 5)), 0), (0, 4)
        for module, name, args in (
                (rulechanges, 'shifted', (CAREFUL, 3)), (climbing, 'states_of_row', (CAREFUL, (0, 1, 2))), (spots, 'spots_of', (TENS,)),
                (resting, 'rest_paper', (TENS,)), (stepping, 'played', (CAREFUL, program)), (rounds, 'longest_row', (CAREFUL, 0)),
                (excesses, 'excess_row', (JUMPY, span)), (backing, 'unsafe_program', (CAREFUL, back, span)),
                (choosing, 'least_marks', (CAREFUL, 0, 4)), (joint, 'joint_states', (CAREFUL, JUMPY, span)),
                (alikeness, 'parting_row', (CAREFUL, JUMPY)), (overtaking, 'above_paper', (CAREFUL, JUMPY, span)),
                (overchecker, 'lets_above', (CAREFUL, CAREFUL, span, ('never', joint.joint_states(CAREFUL, CAREFUL, span)))),
                (onsteps, 'above_program', (CAREFUL, JUMPY, (0, 2))), (programs, 'incoming_ranges', (CHAIN, (None,) * 3, 'f')),
                (analyses, 'all_results', (CHAIN, WIDE))):
            yield getattr(module, name), args

    def test_arguments_and_results(self):
        for function, args in self.calls():
            kept = copy.deepcopy(args)
            told = function(*args)
            self.same(args, kept)
            self.same(function(*args), told)
            self.assertNotIsInstance(told, list)

    def test_lists_that_are_handed_in_or_out(self):
        lines = log_lines((('live', CHAIN, WIDE), ('walk', 'fgw')))
        kept = list(lines)
        log = read_log(lines)
        lines.clear()
        self.same(log_lines(log), kept)
        live = replayed(log)
        live.sheet().clear()
        self.same([len(live.sheet()), live.log() == log], [3, True])
        events = [('walk', 'f'), ('visit', 'g')]
        live.do_all(*events)
        live.tried(*events)
        self.same([events, live.log()[-2:]], [[('walk', 'f'), ('visit', 'g')], (('walk', 'f'), ('visit', 'g'))])

    def test_a_call_that_raises_changes_nothing(self):
        live = Live(CHAIN, WIDE)
        live.walk('wgf')
        for event in (None, ('back', 'w'), ('drop', 9), ('visit', 'q'), ['walk', 'f']):
            before = copy.deepcopy((live.log(), live.ranges_now, live.phases_now, live.program_now, live.widening_now))
            self.assertRaises(InvalidEvent, live.go, event)
            self.same((live.log(), live.ranges_now, live.phases_now, live.program_now, live.widening_now), before)

    def test_the_same_arguments_the_same_results(self):
        source = random.Random(46)
        cases = list(made_analyses(40, 265))
        due = [outcome(analysed, *case) for case in cases]
        order = list(range(len(cases)))
        source.shuffle(order)
        for k in order:
            self.same(outcome(analysed, *cases[k]), due[k])
            self.same(outcome(all_results, *cases[k][:2]), outcome(all_results, *cases[k][:2]))
        self.assertTrue(any(told == ('Restless', (60,)) for told in due))
        self.assertTrue(issubclass(Restless, ClimbError))


if __name__ == '__main__':
    unittest.main()
