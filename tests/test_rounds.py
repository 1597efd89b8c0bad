"""[34] and [35] The greatest numbers of rounds, and rows that have them."""

import itertools
import unittest

from endclimbs.climbing import rounds_of
from endclimbs.errors import NotUsable
from endclimbs.kinds import is_row
from endclimbs.resting import rests, rests_from
from endclimbs.rounds import greatest_rounds, longest_row, most_rounds
from endclimbs.rulechanges import shifted
from playing import states_by_words
from samples import CAREFUL, JUMPY, NO_INTEGERS, RULES, TENS, WAITER, Case
from searching import bent_rules, rounds_from, window

FAR = 10 ** 40
OUT = ('out', 0)
REST = (OUT, OUT, OUT)
MADE = tuple(bent_rules(300, seed=51))


def chain(*pairs):
    """Phases with these pairs for near, that go out otherwise."""
    return tuple((pair, OUT, OUT) for pair in pairs)


class RoundsCase(Case):
    def judge_row(self, rule, first, many):
        row = longest_row(rule, first)
        if many is None:
            self.assertIsNone(row)
            return
        self.assertTrue(is_row(row))
        self.assertEqual((row[0], len(row)), (first, many + 1))
        self.assertEqual([k for k, _, _ in rounds_of(rule, row)], list(range(1, many + 1)))
        states = states_by_words(rule, row)
        for k in range(1, len(row)):
            self.assertTrue(states[k - 1][1] is not None and (row[k] is None or row[k] > states[k - 1][1]))


class MostRoundsTest(RoundsCase):
    def compare(self, rules):
        for rule in rules:
            firsts = window(rule[0], 3)
            numbers = rounds_from(rule, firsts)
            self.same([most_rounds(rule, first) for first in firsts], numbers)
            for first, many in zip(firsts, numbers):
                self.judge_row(rule, first, many)
            greatest = greatest_rounds(rule)
            self.assertEqual(greatest is None, None in numbers)
            if greatest is not None:
                # In the lowest gap a lesser first element leaves more room, for as many takes as phases.
                self.same(greatest, max(most_rounds(rule, first) for first in window(rule[0], 12)))
                self.assertGreaterEqual(greatest, max(numbers))

    def test_against_all_rows_of_a_window(self):
        self.compare(RULES)
        self.compare(MADE)

    def test_more_marks_and_phases(self):
        self.compare(bent_rules(60, marks=6, phases=5, places=range(0, 12), seed=52))

    def test_gaps_in_which_a_ring_is_gone_round_often(self):
        self.compare(bent_rules(60, marks=2, phases=4, places=range(0, 22), seed=53))
        self.compare([((0, 17), chain(('take', 1), ('wait', 2), ('take', 3), ('wait', 1))[:4])])

    def test_gaps_without_room_and_rules_without_marks(self):
        self.compare(bent_rules(80, marks=4, places=range(0, 5), seed=54))
        self.compare(bent_rules(60, marks=0, seed=55))

    def test_marks_of_any_size(self):
        for wide in (10 ** 30, FAR, 10 ** 59):
            rule = ((wide,), TENS[1])
            self.same([most_rounds(rule, first) for first in (0, wide - 1, wide)], [wide + 1, 2, None])
            self.same(most_rounds(rule, -wide), 2 * wide + 1)
            self.same(most_rounds(((0, wide), TENS[1]), -5), 5 + 1)

    def test_a_number_of_rounds_goes_with_the_room(self):
        # What the ring of takes and waits gives is as a slow search says for small rooms, and straight from there on.
        for phases in ((('take', 1), ('wait', 0)), (('wait', 1), ('take', 2), ('take', 0)), (('take', 1), ('take', 1)),
                       (('wait', 1), ('take', 2), ('wait', 3), ('wait', 1))):
            made = chain(*phases)
            made = made[:1] + ((made[1][0], ('wait', 0), ('next', 0)),) + made[2:]
            rule = ((0, 20), made + (REST,))
            small = [most_rounds(rule, 19 - room) for room in range(19)]
            numbers = rounds_from(rule, tuple(range(19, 0, -1)))
            self.same(small, numbers)
            if None in small:
                continue
            # Twelve is a multiple of how many takes each ring has.
            slope = small[18] - small[6]
            for room in range(6, 18):
                for turns in (1, 7, 10 ** 20):
                    wide = ((0, 20 + 12 * turns), rule[1])
                    self.same(most_rounds(wide, 19 - room), small[room] + slope * turns)

    def test_a_ring_of_which_only_one_phase_leads_far(self):
        behind = tuple((('take', k + 1), OUT, OUT) for k in range(3, 7)) + (REST,)
        for moves in itertools.product(('take', 'wait'), repeat=3):
            takes = moves.count('take')
            for far in range(3):
                ring = tuple(((moves[k], (k + 1) % 3), ('take', 3) if k == far else OUT, OUT) for k in range(3))
                rule = ((0, 20), ring + behind)
                small = [most_rounds(rule, 19 - room) for room in range(20)]
                self.same(small, rounds_from(rule, tuple(range(19, -1, -1))))
                for room in range(14, 20):
                    # Each time round the ring of three phases needs as many integers as it has takes.
                    wide = most_rounds(((0, FAR), rule[1]), FAR - 1 - takes * 10 ** 20 - room)
                    self.same(wide, small[room] + 3 * 10 ** 20 if takes else None)

    def test_waits_that_never_end_have_no_number(self):
        for case in range(3):
            pairs = tuple(('wait', 0) if k == case else OUT for k in range(3))
            for first, due in ((3, [None] * 3), (8, [1, None, None]), (9, [None, 1, None])):
                self.same(most_rounds(((5, 9), (pairs,)), first), due[case])
                self.judge_row(((5, 9), (pairs,)), first, due[case])

    def test_a_first_element_by_its_exact_room(self):
        rule = ((10,), chain(('take', 1), ('take', 2), ('take', 3)) + (REST,))
        self.same([most_rounds(rule, first) for first in (-FAR, 5, 6, 7, 8, 9, 10)], [4, 4, 4, 3, 2, 1, 4])

    def test_values_that_are_none(self):
        for first in NO_INTEGERS:
            self.fails(NotUsable, ('first', -1), most_rounds, TENS, first)
            self.fails(NotUsable, ('first', -1), longest_row, CAREFUL, first)
        self.same(most_rounds(rule=CAREFUL, first=0), 4)
        self.same(greatest_rounds(rule=CAREFUL), 4)


class LongestRowTest(RoundsCase):
    def test_sixty_rounds_and_more(self):
        for first in (-49, -48):
            self.judge_row(TENS, first, 11 - first)
        self.same(len(longest_row(TENS, -49)), 61)
        for first in (-50, -51, -FAR):
            self.fails(NotUsable, ('first', -1), longest_row, TENS, first)
        self.judge_row(TENS, 10, None)
        self.fails(NotUsable, ('first', -1), longest_row, ((FAR,), TENS[1]), 0)
        self.judge_row(((FAR,), TENS[1]), FAR - 20, 21)
        self.judge_row(((FAR,), TENS[1]), FAR, None)

    def test_sixty_waits(self):
        for many in (59, 60):
            waits = tuple((('wait', k + 1),) * 3 for k in range(many)) + (REST,)
            if many == 59:
                self.judge_row(((5,), waits), 0, 60)
            else:
                self.fails(NotUsable, ('first', -1), longest_row, ((5,), waits), 0)

    def test_great_marks(self):
        for rule in bent_rules(100, seed=56):
            wide = ((0, 1, FAR, FAR + 3, 2 * FAR), rule[1])
            for first in (-3, 0, 1, FAR - 4, FAR, 2 * FAR - 3, 2 * FAR + 1):
                many = most_rounds(wide, first)
                if many is not None and many > 60:
                    self.fails(NotUsable, ('first', -1), longest_row, wide, first)
                else:
                    self.judge_row(wide, first, many)

    def test_examples(self):
        self.judge_row(CAREFUL, 0, 4)
        self.judge_row(TENS, 0, 11)
        self.judge_row(WAITER, 10, 2)
        self.same(longest_row(rule=TENS, first=10), None)


class ConsequencesTest(Case):
    def test_at_least_one_round(self):
        for rule in MADE:
            for first in (-FAR, -1, 4, 7, FAR):
                number = most_rounds(rule, first)
                self.assertTrue(number is None or number >= 1)

    def test_a_rule_rests_exactly_if_it_has_a_greatest_number(self):
        for rule in MADE + RULES:
            self.same(rests(rule), greatest_rounds(rule) is not None)
            for first in (-4, 1, 3, 9):
                self.same(rests_from(rule, first), most_rounds(rule, first) is not None)

    def test_greatest_is_the_greatest_of_all_first_elements(self):
        for rule in bent_rules(150, seed=57):
            wide = ((0, 7, FAR), rule[1])
            greatest = greatest_rounds(wide)
            numbers = [most_rounds(wide, first) for first in list(range(-9, 12)) + [FAR - 1, FAR, 2 * FAR]]
            self.assertEqual(greatest is None, None in numbers)
            if greatest is not None:
                self.same(greatest, max(numbers))

    def test_from_a_lesser_integer_of_a_gap_there_are_not_fewer(self):
        for rule in MADE:
            marks = rule[0]
            for first in range(-3, 11):
                if first + 1 not in marks:
                    less, more = most_rounds(rule, first), most_rounds(rule, first + 1)
                    self.assertTrue(less is None or (more is not None and less >= more))

    def test_shifted(self):
        for rule in MADE[:100]:
            for by in (-3, FAR):
                self.same([most_rounds(shifted(rule, by), first + by) for first in range(-2, 10)],
                          [most_rounds(rule, first) for first in range(-2, 10)])
                self.same(greatest_rounds(shifted(rule, by)), greatest_rounds(rule))


if __name__ == '__main__':
    unittest.main()
