"""[59], [60] and [61] Analyses of programs with several names."""

import itertools
import random
import unittest

from analysing import (CHAIN, LATER, RULES, WIDE, Slow, bounds, drawn_range, drawn_widening, lies_within, made_analyses,
                       slow_analysis)
from endclimbs.analyses import all_results, analysed, is_closed, least_ranges, walks_of
from endclimbs.choosing import delayed
from endclimbs.errors import NotUsable, Restless
from endclimbs.resting import rests
from endclimbs.rules import Rule
from samples import CAREFUL, JUMPY, ODD, TENS, Case

FAR = 10 ** 40
TAKE = ((), ((('take', 0),) * 3,))
OUT = ((), ((('out', 0),) * 3,))
WAIT = ((), ((('wait', 0),) * 3,))
COUNT = ('i', (('is', 'i', 0, 0), ('plus', 'i', 'i', 1)))
NONE = ('', ())
PLAIN = (OUT, OUT, '')
NO_WIDENINGS = ODD + (None, 0, WIDE[:2], WIDE + ('',), list(WIDE), (LATER, LATER, 'wf'), (LATER, LATER, 'ww'),
                      (LATER, LATER, 'x'), (LATER, LATER, 'gf'), (LATER, LATER, None), (LATER, LATER, ('w',)),
                      (LATER, LATER, ['w']), (LATER, None, 'w'), (None, LATER, 'w'), (Rule.of(LATER), LATER, 'w'),
                      (LATER, (LATER[0], ()), 'w'), (((True,), LATER[1]), LATER, 'w'), (LATER, LATER, 'w '), (LATER, LATER, 0),
                      (LATER, LATER, 'fgwf'), (LATER, LATER, True), (LATER, list(LATER), 'w'), (LATER, LATER, '-'))
NO_ORDERS = ODD + (None, 0, 'fg', 'fgwf', 'fgww', 'fgx', 'FGW', ('f', 'g', 'w'), ['f', 'g', 'w'], 'fgw ', 'ffg')
NO_MOST = ODD + (None, -1, 61, 62, FAR)


class AnalysisCase(Case):
    def judge(self, program, widening, order):
        due = slow_analysis(program, widening, order, 60)
        if due is None:
            self.fails(Restless, (60,), analysed, program, widening, order)
            self.fails(Restless, (60,), walks_of, program, widening, order)
            return None
        self.same(walks_of(program, widening, order), due[0])
        self.same(analysed(program, widening, order), due[1])
        return due


class ComparedTest(AnalysisCase):
    def test_against_the_words(self):
        seen = {}
        for program, widening, order in made_analyses(900, 252, 5):
            due = self.judge(program, widening, order)
            walks = due and due[0]
            seen[walks] = seen.get(walks, 0) + 1
        self.assertTrue({None, 1, 2, 3, 4, 5, 6} <= set(seen))
        self.assertGreater(min(seen[None], seen[3], seen[4]), 40)

    def test_all_orders(self):
        unlike = without = 0
        for program, widening, _ in made_analyses(150, 253):
            told = all_results(program, widening)
            orders = sorted(''.join(order) for order in itertools.permutations(program[0]))
            self.same([order for order, _ in told], orders)
            for order, result in told:
                due = slow_analysis(program, widening, order, 60)
                self.same(result, due and due[1])
            unlike += len(set(told[k][1] for k in range(len(told)))) > 1
            without += None in [result for _, result in told]
            self.assertIsInstance(told, tuple)
        self.assertGreater(min(unlike, without), 10)

    def test_closed(self):
        seen = {True: 0, False: 0}
        source = random.Random(28)
        for program, _, _ in made_analyses(400, 254):
            slow = Slow(program, PLAIN)
            for name in program[0]:
                slow.ranges[name] = source.choice((None, (None, None), drawn_range(source), drawn_range(source)))
            due = slow.open_names() == ''
            seen[due] += 1
            self.same(is_closed(program, slow.now()[0]), due)
        self.assertGreater(min(seen.values()), 40)

    def test_least_ranges(self):
        seen = {None: 0}
        for program, _, _ in made_analyses(400, 255):
            due = slow_analysis(program, PLAIN, program[0], 60)
            if due is None:
                self.fails(Restless, (60,), least_ranges, program)
                seen[None] += 1
                continue
            self.same(least_ranges(program), due[1])
            self.same(least_ranges(program, most=due[0]), due[1])
            seen[due[0]] = seen.get(due[0], 0) + 1
            if due[0] > 0:
                self.fails(Restless, (due[0] - 1,), least_ranges, program, most=due[0] - 1)
        self.assertGreater(min(seen[None], seen[1], seen[2], seen[3]), 4)


class WalkTest(AnalysisCase):
    def test_programs_without_names_and_without_anything(self):
        for widening in ((LATER, LATER, ''), (TENS, WAIT, '')):
            self.same([analysed(NONE, widening, ''), walks_of(NONE, widening, ''), all_results(NONE, widening)],
                      [(), 0, (('', ()),)])
            self.same([analysed(NONE, widening, '', most=0), is_closed(NONE, ()), least_ranges(NONE, most=0)], [(), True, ()])
        bare = ('ba', (('plus', 'a', 'b', 1), ('within', 'b', 'a', 0, 5), ('when', 'a', 'a', 0, 0, 1, 1)))
        self.same([analysed(bare, (OUT, OUT, 'ba'), 'ab', most=0), walks_of(bare, (OUT, OUT, 'a'), 'ba'), is_closed(bare, (None, None))],
                  [(None, None), 0, True])
        self.same(all_results(bare, (OUT, OUT, '')), (('ab', (None, None)), ('ba', (None, None))))

    def test_most(self):
        self.same(walks_of(CHAIN, WIDE, 'wgf'), 3)
        self.same([analysed(CHAIN, WIDE, 'wgf', most=most) for most in (3, 4, 59, 60)], [((5, 5), (7, 7), (0, None))] * 4)
        for most in (0, 1, 2):
            self.fails(Restless, (most,), analysed, CHAIN, WIDE, 'wgf', most=most)
            self.fails(Restless, (most,), walks_of, CHAIN, WIDE, 'wgf', most=most)
            self.fails(Restless, (most,), least_ranges, CHAIN[:1] + (CHAIN[1] + (('plus', 'f', 'f', 1),),), most=most)

    def test_sixty_and_sixty_one_walks(self):
        for marks, walks in (((58,), 60), ((59,), 61), ((57,), 59)):
            # One walk for 0, so many takes, then at the mark out.
            rule = (marks, ((('take', 0), ('out', 0), ('out', 0)),))
            program, widening = COUNT, (OUT, rule, 'i')
            due = slow_analysis(program, widening, 'i', 100)
            self.same([due[0] - 1, due[1]], [marks[0], ((0, None),)])
            if due[0] > 60:
                self.fails(Restless, (60,), analysed, program, widening, 'i')
                self.same(all_results(program, widening), (('i', None),))
            else:
                self.same(walks_of(program, widening, 'i'), due[0])
                self.same(all_results(program, widening), (('i', due[1]),))
        for top in (58, 59, 60):
            program = ('ji', (('is', 'i', 0, 0), ('plus', 'j', 'i', 1), ('within', 'i', 'j', None, top)))
            due = slow_analysis(program, PLAIN, 'ji', 99)
            if due[0] <= 60:
                self.same([walks_of(program, PLAIN, 'ji'), least_ranges(program)], list(due))
            else:
                self.fails(Restless, (60,), least_ranges, program)
                self.fails(Restless, (60,), walks_of, program, PLAIN, 'ji')
        self.fails(Restless, (60,), least_ranges, COUNT)

    def test_the_order_of_a_walk(self):
        line = ('abc', (('is', 'a', 0, 0), ('plus', 'b', 'a', 1), ('plus', 'c', 'b', 1)))
        for order, walks in (('abc', 1), ('cba', 3), ('acb', 2), ('bac', 2), ('bca', 2), ('cab', 2)):
            self.same([walks_of(line, PLAIN, order), analysed(line, PLAIN, order)], [walks, ((0, 0), (1, 1), (2, 2))])
        self.same(analysed(program=line, widening=PLAIN, order='bca', most=2), ((0, 0), (1, 1), (2, 2)))
        self.same(walks_of(program=line, widening=PLAIN, order='bca', most=2), 2)

    def test_what_first_comes_in_is_not_widened(self):
        self.same(analysed(('a', (('is', 'a', 3, 4),)), (OUT, OUT, 'a'), 'a'), ((3, 4),))
        self.same(analysed(('a', (('is', 'a', 3, 4), ('plus', 'a', 'a', 1))), (OUT, OUT, 'a'), 'a'), ((3, None),))

    def test_low_and_high_ends_by_their_rules(self):
        # Low ends go down by the marks of minus them.
        down = ('a', (('is', 'a', 0, 0), ('plus', 'a', 'a', -1)))
        low = ((4, 9), ((('next', 0), ('take', 0), ('out', 0)),))
        self.same(analysed(down, (low, WAIT, 'a'), 'a'), ((None, 0),))
        steps = (('is', 'a', 0, 0), ('plus', 'a', 'a', -1), ('within', 'a', 'a', -3, None))
        for low, due in ((TAKE, None), (OUT, None), (((4,), ((('next', 0), ('take', 0), ('wait', 0)),)), None)):
            self.judge(('a', steps), (low, WAIT, 'a'), 'a')
        cut = ('ab', (('is', 'a', 0, 0), ('plus', 'b', 'a', -1), ('within', 'a', 'b', -3, None)))
        self.same(analysed(cut, (((4,), ((('next', 0), ('take', 0), ('out', 0)),)), WAIT, 'a'), 'ab'), ((-4, 0), (-5, -1)))
        both = ('a', (('is', 'a', 0, 0), ('plus', 'a', 'a', 1), ('plus', 'a', 'a', -1)))
        self.same(analysed(both, (OUT, ((7,), ((('next', 0), ('take', 0), ('out', 0)),)), 'a'), 'a'), ((None, None),))

    def test_endless_ends(self):
        endless = ('ab', (('is', 'a', None, 3), ('is', 'b', 3, None), ('plus', 'a', 'b', 0), ('plus', 'b', 'a', 0)))
        for widened in ('', 'a', 'b', 'ab'):
            self.judge(endless, (TENS, CAREFUL, widened), 'ab')
            self.same(analysed(endless, (OUT, OUT, widened), 'ba'), ((None, None), (None, None)))
        # Endless comes in as far, or as next out of all marks.
        far = ('ab', (('is', 'a', 0, 0), ('plus', 'b', 'a', 0), ('when', 'a', 'b', 0, 0, None, None)))
        self.same(analysed(far, (JUMPY, JUMPY, 'a'), 'ab'), ((None, None), (None, None)))
        self.fails(Restless, (60,), analysed, far, (WAIT, JUMPY, 'a'), 'ab')

    def test_rules_that_wait(self):
        late = ((), ((('wait', 1),) * 3, (('wait', 2),) * 3, (('take', 2),) * 3))
        program = ('ab', (('is', 'a', 0, 0), ('is', 'b', 7, 8), ('plus', 'a', 'b', 0)))
        self.same([walks_of(program, (late, late, 'a'), 'ab'), analysed(program, (late, late, 'a'), 'ab')], [4, ((0, 8), (7, 8))])
        self.fails(Restless, (60,), analysed, program, (WAIT, WAIT, 'a'), 'ab')
        self.same(all_results(program, (WAIT, WAIT, 'a')), (('ab', None), ('ba', ((0, 8), (7, 8)))))

    def test_phases_stay_where_nothing_new_comes_in(self):
        # Of both ends only the one at which more comes in gets to its next phase.
        once = ((), ((('take', 1),) * 3, (('out', 1),) * 3))
        program = ('ab', (('is', 'b', 0, 0), ('plus', 'a', 'b', 0), ('within', 'b', 'a', None, None), ('is', 'a', 0, 1),
                          ('when', 'a', 'b', 1, 1, -1, 0)))
        for order in ('ab', 'ba'):
            self.judge(program, (once, once, 'a'), order)
            self.judge(program, (once, once, 'ab'), order)


class ClosedTest(AnalysisCase):
    def test_ranges(self):
        self.same([is_closed(CHAIN, ranges) for ranges in (((5, 5), (7, 7), (0, 7)), ((5, 5), (7, 7), (0, 6)), ((5, 5), (7, 7), None),
                                                           ((5, 5), None, (0, 7)), ((5, 5), None, (None, None)), (None,) * 3,
                                                           ((None, None),) * 3, ((4, 5), (6, 7), (0, 7)), ((4, 5), (7, 7), (0, 7)))],
                  [True, False, False, False, False, False, True, True, False])
        self.same(is_closed(program=CHAIN, ranges=((5, 5), (7, 7), (-1, None))), True)
        # A name without a range lets nothing come in by its steps.
        self.same(is_closed(('ab', (('plus', 'a', 'b', 1),)), (None, None)), True)
        self.same(is_closed(('ab', (('plus', 'a', 'b', 1),)), (None, (0, 0))), False)

    def test_values_that_are_none(self):
        good = ((5, 5), (7, 7), (0, 7))
        for ranges in ODD + (None, 0, (), good[:2], good + (None,), list(good), (5, 5, 5), ((5, 4), None, None), ([5, 5], None, None),
                             ((True, 5), None, None), ((5, 5, 5), None, None), ('fgw',) * 3):
            self.fails(NotUsable, ('ranges', -1), is_closed, CHAIN, ranges)


class ErrorsTest(AnalysisCase):
    def test_widenings(self):
        for widening in NO_WIDENINGS:
            for function in (analysed, walks_of):
                self.fails(NotUsable, ('widening', -1), function, CHAIN, widening, 'fgw')
                self.fails(NotUsable, ('widening', -1), function, CHAIN, widening, 'x', most=61)
            self.fails(NotUsable, ('widening', -1), all_results, CHAIN, widening)
        for widened in ('', 'f', 'g', 'w', 'fg', 'fw', 'gw', 'fgw'):
            self.judge(CHAIN, (CAREFUL, LATER, widened), 'fgw')
            self.same(len(all_results(program=CHAIN, widening=(CAREFUL, LATER, widened))), 6)

    def test_orders(self):
        for order in NO_ORDERS:
            for function in (analysed, walks_of):
                self.fails(NotUsable, ('order', -1), function, CHAIN, WIDE, order)
                self.fails(NotUsable, ('order', -1), function, CHAIN, WIDE, order, most=61)
        self.fails(NotUsable, ('order', -1), analysed, NONE, (OUT, OUT, ''), 'a')

    def test_most(self):
        for most in NO_MOST:
            for function in (analysed, walks_of):
                self.fails(NotUsable, ('most', -1), function, CHAIN, WIDE, 'fgw', most=most)
            self.fails(NotUsable, ('most', -1), least_ranges, CHAIN, most=most)
            self.fails(NotUsable, ('most', -1), least_ranges, COUNT, most=most)


class ConsequencesTest(AnalysisCase):
    def test_each_result_is_closed_and_has_the_least_ranges(self):
        seen = 0
        for program, widening, order in made_analyses(400, 256):
            try:
                result = analysed(program, widening, order)
            except Restless:
                continue
            self.same(is_closed(program, result), True)
            try:
                least = least_ranges(program)
            except Restless:
                continue
            seen += 1
            for held, due in zip(result, least):
                self.assertTrue(due is None or lies_within(due, held))
                self.assertTrue(held is None or bounds(held)[0] <= bounds(held)[1])
        self.assertGreater(seen, 150)

    def test_all_names_widened_by_rules_that_rest(self):
        resting = [rule for rule in RULES if rests(rule)]
        source = random.Random(29)
        seen = []
        for program, _, order in made_analyses(300, 257):
            widening = source.choice(resting), source.choice(resting), program[0]
            due = slow_analysis(program, widening, order, 400)
            self.assertIsNotNone(due)
            seen.append(due[0])
            self.judge(program, widening, order)
        self.assertGreater(max(seen), 6)

    def test_maybe_more_than_sixty_walks(self):
        rule = delayed(OUT, 60)
        self.same([rests(rule), slow_analysis(COUNT, (rule, rule, 'i'), 'i', 99)], [True, (62, ((0, None),))])
        self.fails(Restless, (60,), analysed, COUNT, (rule, rule, 'i'), 'i')
        self.same(walks_of(COUNT, (rule, delayed(OUT, 58), 'i'), 'i'), 60)

    def test_drawn_widenings_are_usable(self):
        source = random.Random(30)
        for _ in range(50):
            widening = drawn_widening(source, 'fgw')
            self.judge(CHAIN, widening, 'gwf')


if __name__ == '__main__':
    unittest.main()
