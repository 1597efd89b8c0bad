"""[53] and [54] Rules that are never above other ones on step programs."""

import random
import unittest

from endclimbs.kinds import is_program
from endclimbs.onsteps import above_program, never_above_on_steps
from endclimbs.overtaking import never_above
from endclimbs.rulechanges import shifted
from playing import big
from samples import CAREFUL, JUMPY, RULES, TENS, WAITER, Case
from searching import bent_rules, programs_of, slow_playing
from twins import WAYS, changed

FAR = 10 ** 40
ONE = ((2, 4), ((('take', 1), ('take', 1), ('take', 2)), (('next', 1), ('take', 1), ('take', 2)), (('out', 2),) * 3))
TWO = ((2, 4), ((('next', 1), ('take', 1), ('out', 1)), (('out', 1), ('take', 1), ('take', 1))))
OUT = ((), ((('out', 0),) * 3,))
TAKE = ((), ((('take', 0),) * 3,))
WAIT = ((), ((('wait', 0),) * 3,))
SPANS = ((0, 2), (1, 4), (-1, 2), (3, 3))
PROGRAMS = {span: tuple(programs_of(span)) for span in SPANS}


def shows(rule, other, program):
    """Whether both come to rest on the program, and rule at the greater end."""
    ends = [slow_playing(one, program) for one in (rule, other)]
    return None not in ends and big(ends[0][1]) > big(ends[1][1])


class OnStepsCase(Case):
    def judge(self, rule, other, span, programs):
        due = not any(shows(rule, other, program) for program in programs)
        self.same(never_above_on_steps(rule, other, span), due)
        told = above_program(rule, other, span)
        self.assertEqual(told is None, due)
        if told is not None:
            self.assertTrue(is_program(told) and told[1] == 0)
            integers = [c for c, _ in told[0][1:]] + [d for _, d in told[0]]
            self.assertTrue(all(span[0] <= integer <= span[1] for integer in integers))
            self.assertTrue(shows(rule, other, told))
        return due


class SearchTest(OnStepsCase):
    def test_against_all_step_programs(self):
        source = random.Random(25)
        seen = {True: 0, False: 0}
        unlike = restless = 0
        for rule in tuple(bent_rules(90, marks=4, seed=231, places=range(-1, 7))) + RULES:
            for other in (changed(rule, source), source.choice(RULES + (ONE, TWO, OUT, TAKE, WAIT))):
                span = source.choice(SPANS)
                for one, two in ((rule, other), (other, rule)):
                    due = self.judge(one, two, span, PROGRAMS[span])
                    seen[due] += 1
                    unlike += due != never_above(one, two, span)
                ends = [slow_playing(one, program) for one in (rule, other) for program in PROGRAMS[span]]
                restless += None in ends
        self.assertGreater(min(seen.values()), 60)
        self.assertGreater(min(unlike, restless), 10)

    def test_tiny_spans_of_six_integers(self):
        programs = tuple(programs_of((0, 5)))
        for rule, other in ((ONE, TWO), (TWO, ONE), (CAREFUL, JUMPY), (WAITER, TAKE)):
            self.judge(rule, other, (0, 5), programs)
        self.same([never_above(ONE, TWO, (0, 5)), never_above_on_steps(ONE, TWO, (0, 5))], [True, False])

    def test_rules_that_come_to_rest_on_no_program_with_a_round(self):
        # Where one of both never comes to rest, nothing is asked.
        for other in RULES + (ONE, TWO, OUT, TAKE):
            for span in SPANS:
                self.same([never_above_on_steps(WAIT, other, span), never_above_on_steps(other, WAIT, span)], [True, True])
                self.same([above_program(WAIT, other, span), above_program(other, WAIT, span)], [None, None])
        self.same([never_above_on_steps(OUT, TAKE, (0, 1)), never_above_on_steps(TAKE, OUT, (0, 1))], [False, True])

    def test_one_that_rests_on_some_programs_only(self):
        # It waits for ever for 3, and goes out at anything else.
        picky = ((3,), ((('out', 0), ('wait', 0), ('out', 0)),))
        for span in ((0, 3), (1, 4), (2, 3)):
            self.judge(picky, TAKE, span, tuple(programs_of(span)))
            self.judge(TAKE, picky, span, tuple(programs_of(span)))
        self.same([never_above_on_steps(picky, TAKE, (2, 3)), never_above_on_steps(picky, TAKE, (2, 4))], [True, False])

    def test_of_one_integer(self):
        for rule in RULES:
            for other in RULES:
                self.same(above_program(rule, other, (7, 7)), None)

    def test_great_integers_and_names(self):
        source = random.Random(26)
        for rule in bent_rules(20, seed=232):
            other = changed(rule, source)
            self.same(never_above_on_steps(shifted(rule, FAR), shifted(other, FAR), (FAR, FAR + 4)),
                      never_above_on_steps(rule=rule, other=other, span=(0, 4)))
        self.assertTrue(shows(CAREFUL, JUMPY, above_program(rule=CAREFUL, other=JUMPY, span=(0, 2))))

    def test_the_programs_of_the_document(self):
        self.assertTrue(shows(CAREFUL, JUMPY, (((None, 0), (0, 1), (1, 2)), 0)))
        self.same([slow_playing(rule, (((None, 0), (0, 1), (1, 3), (2, 5)), 0)) for rule in (ONE, TWO)],
                  [((0, 1, 3, 5), None), ((0, 1, 5), 5)])


class ConsequencesTest(OnStepsCase):
    def test_alike_rules(self):
        source = random.Random(27)
        for rule in tuple(bent_rules(50, seed=233)) + RULES:
            twin = source.choice(WAYS)(rule, source)
            for span in SPANS:
                self.same([never_above_on_steps(*two, span) for two in ((rule, rule), (rule, twin), (twin, rule))], [True] * 3)
                for program in PROGRAMS[span][::5]:
                    ends = [slow_playing(one, program) for one in (rule, twin)]
                    self.same(ends[0] and ends[0][1], ends[1] and ends[1][1])

    def test_neither_says_the_other(self):
        self.same([never_above(ONE, TWO, (0, 5)), never_above_on_steps(ONE, TWO, (0, 5))], [True, False])
        self.same([never_above(WAIT, TENS, (0, 5)), never_above_on_steps(TENS, WAIT, (0, 5)), never_above(TENS, WAIT, (0, 5))],
                  [True, True, False])


if __name__ == '__main__':
    unittest.main()
