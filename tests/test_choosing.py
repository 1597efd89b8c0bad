"""[42] to [44] Marks left out, and delays."""

import itertools
import unittest

from endclimbs.choosing import delayed, fitting_delays, least_marks
from endclimbs.errors import NotUsable
from endclimbs.kinds import is_rule
from endclimbs.rounds import most_rounds
from playing import made_rows, states_by_words
from samples import CAREFUL, JUMPY, NO_INTEGERS, RULES, TENS, Case
from searching import bent_rules, rounds_from

FAR = 10 ** 40
OUT = ('out', 0)
TWO = ((5, 10), TENS[1])
NO_NUMBERS = NO_INTEGERS + (-1, -FAR)
MADE = tuple(bent_rules(60, marks=4, seed=81))


def slow_number(rule, first):
    """The greatest number of rounds by all rows of a window, which has the first element, with marks as they are."""
    return rounds_from(rule, (first,))[0]


def fitting_sets(rule, first, most, number):
    """The sets of marks with at most so many rounds, those with fewer marks ahead."""
    for many in range(len(rule[0]) + 1):
        for chosen in itertools.combinations(rule[0], many):
            rounds = number((chosen, rule[1]), first)
            if rounds is not None and rounds <= most:
                yield chosen


class LeastMarksTest(Case):
    def judge(self, rule, first, most, number):
        fitting = list(fitting_sets(rule, first, most, number))
        told = least_marks(rule, first, most)
        if fitting:
            self.assertIn(told, fitting)
            self.assertEqual(len(told), len(fitting[0]))
        else:
            self.assertIsNone(told)
        return told

    def test_against_a_slow_search_of_all_sets(self):
        seen = {}
        for rule in MADE:
            for first, most in ((0, 3), (-1, 5), (2, 1), (2, 4)):
                told = self.judge(rule, first, most, slow_number)
                many = None if told is None else len(told)
                seen[many] = seen.get(many, 0) + 1
        self.assertTrue({None, 0, 1} <= set(seen))

    def test_six_marks_of_any_size(self):
        for rule in bent_rules(60, seed=82):
            wide = ((-FAR, 0, 3, 4, 9, FAR), rule[1])
            for most in (2, 4, 6, 9, FAR, 3 * FAR):
                for first in (0, 5, FAR):
                    self.judge(wide, first, most, most_rounds)

    def test_most_at_and_around_the_number(self):
        for rule in MADE:
            number = most_rounds(rule, 0)
            if number is not None:
                for most in (number - 1, number, number + 1):
                    told = self.judge(rule, 0, most, most_rounds)
                    self.assertTrue(most < number or told is not None)
        self.same([least_marks(TENS, 0, most) for most in (10, 11, 12, FAR)], [None, (10,), (10,), (10,)])
        self.same([least_marks(JUMPY, 0, most) for most in (0, 1, 2)], [None, (), ()])

    def test_more_than_one_mark(self):
        # Each mark is taken in turn; the rounds go out behind the third one, and go on for ever with fewer.
        phases = tuple((('take', 0) if k == 0 else ('take', k), ('take', k + 1), OUT) for k in range(3))
        rule = ((5, 6, 7, 8), phases + (((OUT,) * 3),))
        self.same([len(least_marks(rule, 4, 9)), least_marks(rule, 4, 3)], [3, None])
        self.judge(rule, 4, 9, most_rounds)

    def test_values_that_are_none(self):
        for first in NO_INTEGERS:
            self.fails(NotUsable, ('first', -1), least_marks, TWO, first, None)
            self.fails(NotUsable, ('first', -1), least_marks, TWO, first, 6)
        for most in NO_NUMBERS:
            self.fails(NotUsable, ('most', -1), least_marks, TWO, 0, most)
        self.same(least_marks(rule=TWO, first=0, most=6), (5,))
        self.same(least_marks(((), TENS[1]), 0, 60), None)


class DelayedTest(Case):
    def test_the_rule(self):
        for rule in MADE + RULES:
            for count in (0, 1, 3, 60):
                marks, phases = delayed(rule, count)
                self.assertTrue(is_rule((marks, phases)))
                self.same((marks, len(phases)), (rule[0], count + len(rule[1])))
                self.same(phases[:count], tuple((('take', k + 1),) * 3 for k in range(count)))
                self.same(phases[count:], tuple(tuple((move, later + count) for move, later in phase)
                                                for phase in rule[1]))
        self.same(delayed(rule=JUMPY, count=0), JUMPY)

    def test_the_first_rounds_are_takes(self):
        for rule in MADE[:20]:
            for row in made_rows(30):
                states = states_by_words(delayed(rule, 2), row)
                for k, (phase, end, _) in enumerate(states):
                    if phase < 2:
                        self.same(end, row[k])

    def test_delayed_twice(self):
        for rule in MADE[:20]:
            for many, more in ((0, 0), (2, 3), (5, 1), (30, 30)):
                self.same(delayed(delayed(rule, many), more), delayed(rule, many + more))

    def test_values_that_are_none(self):
        for count in NO_NUMBERS:
            self.fails(NotUsable, ('count', -1), delayed, JUMPY, count)


class FittingDelaysTest(Case):
    def slow(self, rule, first, most, number):
        found = [(count, number(delayed(rule, count), first)) for count in range(most + 3)]
        return tuple(count for count, rounds in found if rounds is not None and rounds <= most)

    def test_against_a_slow_search(self):
        for rule in MADE[:30] + RULES:
            for first, most in ((0, 4), (3, 3), (-2, 2)):
                self.same(fitting_delays(rule, first, most), self.slow(rule, first, most, slow_number))

    def test_against_each_single_delay(self):
        seen = {}
        for rule in tuple(bent_rules(100, marks=4, seed=83)):
            for first, most in ((0, 12), (-4, 8), (5, 1), (9, 0)):
                told = fitting_delays(rule, first, most)
                self.same(told, self.slow(rule, first, most, most_rounds))
                kind = 'none' if not told else 'hole' if len(told) <= told[-1] - told[0] else 'late' if told[0] else 'whole'
                seen[kind] = seen.get(kind, 0) + 1
        self.assertGreater(len(seen), 2)

    def test_delays_that_begin_late_or_have_a_hole(self):
        late = ((1, 2, 4), ((('take', 1), ('wait', 1), ('wait', 1)), (('next', 1), ('next', 0), OUT)))
        holed = ((1, 4, 5), ((('take', 1), ('take', 1), ('take', 1)), (('out', 1), ('next', 0), ('next', 0))))
        for rule, due in ((late, (2, 4)), (holed, (0, 1, 2, 4))):
            self.same(fitting_delays(rule, 0, 6), due)
            self.same(self.slow(rule, 0, 6, slow_number), due)

    def test_sixty(self):
        for rule in MADE[:6] + RULES:
            for first in (0, -100):
                told = fitting_delays(rule, first, 60)
                self.same(told, self.slow(rule, first, 60, most_rounds))
        rest = ((5,), (((OUT,) * 3),))
        self.same(fitting_delays(rest, 0, 60), tuple(range(60)))
        self.same(fitting_delays(((10 ** 30,), rest[1]), 0, 60), tuple(range(60)))

    def test_values_that_are_none(self):
        for first in NO_INTEGERS:
            self.fails(NotUsable, ('first', -1), fitting_delays, JUMPY, first, None)
            self.fails(NotUsable, ('first', -1), fitting_delays, JUMPY, first, 3)
        for most in NO_NUMBERS:
            self.fails(NotUsable, ('most', -1), fitting_delays, JUMPY, 0, most)
        self.same(fitting_delays(rule=JUMPY, first=0, most=3), (0, 1))
        self.same(fitting_delays(CAREFUL, 0, 0), ())


class ConsequencesTest(Case):
    def test_none_is_greater_than_most(self):
        for rule in MADE:
            for most in (0, 1, 7):
                for count in fitting_delays(rule, 0, most):
                    self.assertLessEqual(count, most)
                self.assertTrue((most_rounds(delayed(rule, most + 1), 0) or FAR) > most)

    def test_with_a_greater_most_there_is_not_less(self):
        for rule in MADE:
            marks, delays = None, ()
            for most in range(0, 12):
                found = fitting_delays(rule, 0, most)
                self.assertTrue(set(delays) <= set(found))
                told = least_marks(rule, 0, most)
                if marks is not None:
                    self.assertLessEqual(len(told), len(marks))
                delays, marks = found, told


if __name__ == '__main__':
    unittest.main()
