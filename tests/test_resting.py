"""[28], [29] and [30] Whether rules rest, on rows and on steps, the rings of those that do not, and told papers."""

import unittest

from endclimbs.errors import NotUsable
from endclimbs.kinds import is_row
from endclimbs.restchecker import lets_rest
from endclimbs.resting import rest_paper, rests, rests_from, rests_on_steps, ring_of
from endclimbs.rounds import most_rounds
from endclimbs.rulechanges import shifted
from endclimbs.spots import spots_of
from playing import states_by_words
from samples import CAREFUL, JUMPY, NO_INTEGERS, RULES, TENS, WAITER, Case
from searching import bent_rules, rounds_from, slow_gap, window

FAR = 10 ** 40
OUT = ('out', 0)
REST = (OUT, OUT, OUT)
MADE = tuple(bent_rules(300, seed=21))


def waits_at(case, marks=(5, 9)):
    """A rule that waits for ever at one case, and goes out at the others."""
    return marks, (tuple(('wait', 0) if k == case else OUT for k in range(3)),)


def rounds_by_words(rule, row):
    """The indexes of the elements of a row that are rounds, and of those by which the end waits."""
    states = states_by_words(rule, row)
    rounds = [k for k in range(1, len(row)) if states[k - 1][1] is not None
              and (row[k] is None or row[k] > states[k - 1][1])]
    return rounds, [k for k in rounds if states[k][1] == states[k - 1][1]]


class RestTest(Case):
    def test_against_all_rows_of_a_window(self):
        seen = {True: 0, False: 0}
        for rule in MADE:
            firsts = window(rule[0], 3)
            numbers = rounds_from(rule, firsts)
            self.same([rests_from(rule, first) for first in firsts], [number is not None for number in numbers])
            self.same(rests(rule), None not in numbers)
            self.same(rests_on_steps(rule), None not in rounds_from(rule, firsts, True))
            seen[rests(rule)] += 1
        self.assertGreater(min(seen.values()), 60)

    def test_more_marks_and_phases(self):
        for rule in bent_rules(60, marks=6, phases=5, places=range(0, 10), seed=22):
            firsts = window(rule[0], 3)
            self.same([rests_from(rule, first) for first in firsts],
                      [number is not None for number in rounds_from(rule, firsts)])

    def test_a_rule_that_rests_rests_on_steps_and_from_every_integer(self):
        apart = 0
        for rule in MADE:
            if rests(rule):
                self.assertTrue(rests_on_steps(rule))
            apart += rests_on_steps(rule) and not rests(rule)
            self.assertEqual(rests(rule), all(rests_from(rule, first) for first in window(rule[0], 12)))
        self.assertGreater(apart, 2)

    def test_waits_at_each_case(self):
        self.same([rests(waits_at(case)) for case in range(3)], [False] * 3)
        self.same([rests_on_steps(waits_at(case)) for case in range(3)], [False] * 3)
        # In the outer gap far comes with endless only, which no step program lets come in there.
        self.same([rests(waits_at(case, ())) for case in range(3)], [False, True, False])
        self.same([rests_on_steps(waits_at(case, ())) for case in range(3)], [False, True, True])
        self.same([rests_from(waits_at(1), first) for first in (4, 8, 9, FAR)], [False, False, True, True])
        self.same([rests_from(waits_at(2), first) for first in (-FAR, 9, FAR)], [False, False, False])
        for rule in (waits_at(0), waits_at(1), waits_at(2), waits_at(2, ())):
            row, more = ring_of(rule)
            self.assertEqual(len(set(more)), 1)

    def test_rings_of_several_phases(self):
        # The waits lead through phase 1 into a ring of 2 and 3.
        ring = tuple((OUT, ('wait', later), OUT) for later in (1, 2, 3, 2))
        self.same([rests(((5,), ring)), rests_on_steps(((5,), ring))], [False, False])
        self.same([rests_from(((5,), ring), first) for first in (4, 5)], [False, True])
        broken = ring[:3] + ((OUT, ('take', 2), OUT),)
        self.same([rests(((5,), broken)), rests_on_steps(((5,), broken))], [True, True])
        climbs = tuple(((move, later), OUT, OUT) for move, later in (('take', 1), ('wait', 2), ('take', 1)))
        for marks in ((), (5,), (5, 9)):
            self.same([rests((marks, climbs)), rests_on_steps((marks, climbs))], [False, False])
            self.same([rests((marks, climbs[:2] + ((('next', 1), OUT, OUT),)))], [True])

    def test_long_ways_to_a_ring(self):
        for many in (3, 6, 30):
            for case in range(3):
                # So many near takes lead to the phase from which so many waits lead to the ring.
                climbs = tuple((('take', k + 1), OUT, OUT) for k in range(many))
                waits = tuple(tuple(('wait', k + 1) if place == case else OUT for place in range(3))
                              for k in range(many, 2 * many))
                ring = tuple(('wait', 2 * many) if place == case else OUT for place in range(3))
                rule = ((5,), climbs + waits + (ring,))
                self.same([rests(rule), rests_on_steps(rule), lets_rest(rule, rest_paper(rule))], [False] * 3)
                self.same([rests_from(rule, 4 - many - 1), rests_from(rule, 4)], [False, True])
                broken = ((5,), climbs + waits + (REST,))
                self.same([rests(broken), rests_on_steps(broken), lets_rest(broken, rest_paper(broken))], [True] * 3)

    def test_a_near_wait_needs_room(self):
        # From a mark on without room, near does not come; the phase behind the mark waits for ever elsewhere.
        phases = ((OUT, ('take', 1), OUT), (('wait', 1), OUT, OUT))
        self.same([rests(((5, 6), phases)), rests(((5, 7), phases))], [False, False])
        self.same([rests_from(((5, 6), phases), first) for first in (4, 5, 6)], [True, False, True])
        closed = ((OUT, ('take', 1), OUT), (('wait', 1), ('take', 2), OUT), REST)
        self.same([rests_from(((5, 6, 7), closed), first) for first in (4, 5, 6)], [True, True, False])
        self.same([rests_from(((5, 7, 8), closed), first) for first in (4, 5, 7)], [False, True, False])

    def test_a_gap_that_is_not_reached(self):
        # Phase 1 would wait for ever, but in the gaps from which it comes there is nothing above but endless.
        rule = ((5,), ((OUT, ('next', 0), OUT), (('wait', 1),) * 3))
        self.same([rests(rule), rests_on_steps(rule), ring_of(rule)], [True, True, None])
        far = ((5, 9), ((OUT, OUT, ('next', 1)), (('take', 1), OUT, OUT)))
        self.same([rests_from(far, first) for first in (4, 5, 9)], [False, True, True])

    def test_steps_let_the_same_come_in_again(self):
        # Behind a near wait only rows let 10 come in.
        self.same([rests(WAITER), rests_on_steps(WAITER)], [False, True])
        rule = ((5,), ((('wait', 1), OUT, OUT), (('take', 0), ('wait', 1), OUT)))
        self.same([rests(rule), rests_on_steps(rule)], [False, False])

    def test_marks_of_any_size(self):
        rule = ((-FAR, FAR), TENS[1])
        self.same([rests_from(rule, first) for first in (-2 * FAR, 0, FAR - 1, FAR, 2 * FAR)],
                  [True, True, True, False, False])
        self.same([rests(((FAR,), CAREFUL[1])), rests(((-FAR, 0, FAR), JUMPY[1]))], [True, True])

    def test_values_that_are_none(self):
        for first in NO_INTEGERS:
            self.fails(NotUsable, ('first', -1), rests_from, TENS, first)
        self.same(rests_from(rule=TENS, first=-10 ** 59), True)


class RingTest(Case):
    def judge(self, rule, ring):
        row, more = ring
        self.assertIsInstance(ring, tuple)
        self.assertTrue(is_row(row) and is_row(row + more) and more)
        states = states_by_words(rule, row + more)
        before, last = states[len(row) - 1], states[-1]
        self.assertEqual(before[0], last[0])
        rounds, waits = [[k for k in found if k >= len(row)] for found in rounds_by_words(rule, row + more)]
        self.assertTrue(rounds)
        if None not in row + more and before[1] is not None and last[1] is not None:
            climbs = slow_gap(rule[0], before[1]) == len(rule[0])
        else:
            climbs = False
        if not climbs:
            self.assertEqual(len(set(more)), 1)
            self.assertEqual(len(waits), len(more))
        # Again and again, in the outer gap with greater integers in their place.
        long = row
        for turn in range(6):
            by = turn * (last[1] - before[1]) if climbs else 0
            long += tuple(y if y is None else y + by for y in more)
        self.assertTrue(is_row(long))
        self.assertGreaterEqual(len(rounds_by_words(rule, long)[0]), 6 * len(rounds))

    def test_each_ring(self):
        for rule in MADE + RULES + tuple(bent_rules(100, marks=5, phases=6, seed=23)):
            ring = ring_of(rule)
            self.assertEqual(ring is None, rests(rule))
            if ring is not None:
                self.judge(rule, ring)

    def test_great_marks(self):
        for marks in ((FAR,), (-FAR, 7), (0, 1, FAR)):
            for rule in bent_rules(60, seed=24):
                moved = (marks, rule[1])
                ring = ring_of(moved)
                self.assertEqual(ring is None, rests(moved))
                if ring is not None:
                    self.judge(moved, ring)

    def test_examples(self):
        self.same([ring_of(CAREFUL), ring_of(JUMPY)], [None, None])
        self.judge(TENS, ring_of(rule=TENS))
        self.judge(WAITER, ring_of(WAITER))


class ConsequencesTest(Case):
    def test_shifted_rules_rest_together(self):
        for rule in MADE[:80]:
            for by in (-7, 1, FAR):
                self.same([rests(shifted(rule, by)), rests_on_steps(shifted(rule, by))],
                          [rests(rule), rests_on_steps(rule)])
                self.same([rests_from(shifted(rule, by), first + by) for first in range(-2, 10)],
                          [rests_from(rule, first) for first in range(-2, 10)])

    def test_without_marks_whoever_takes_whenever_near_comes_does_not_rest(self):
        for rule in bent_rules(60, marks=0, seed=25):
            takes = tuple((('take', phase[0][1]),) + phase[1:] for phase in rule[1])
            self.same([rests(((), takes)), rests_on_steps(((), takes))], [False, False])

    def test_more_marks_or_fewer_make_a_rule_rest_or_not(self):
        rule = ((5,), ((('next', 1), OUT, ('out', 0)), (('take', 1), ('take', 1), OUT)))
        # With 5 alone the near next gets to the outer gap in phase 1; without marks it goes out.
        self.same([rests(rule), rests(((), rule[1]))], [False, True])
        late = ((5,), ((('take', 0), ('take', 1), OUT), REST))
        self.same([rests_from(late, 4), rests_from(((), late[1]), 4)], [True, False])

    def test_rests_from_is_whether_there_is_a_greatest_number(self):
        for rule in MADE:
            for first in (-5, 0, 3, 8):
                self.same(rests_from(rule, first), most_rounds(rule, first) is not None)


class PaperTest(Case):
    def test_told_papers_are_accepted(self):
        for rule in MADE + RULES + tuple(bent_rules(60, marks=6, phases=6, seed=26)):
            paper = rest_paper(rule)
            self.assertEqual(paper[0], 'rests' if rests(rule) else 'rings')
            self.same(lets_rest(rule, paper), rests(rule))
            self.assertIsInstance(paper, tuple)

    def test_great_marks(self):
        for rule in bent_rules(60, seed=27):
            moved = ((0, 1, FAR, FAR + 1), rule[1])
            self.same(lets_rest(moved, rest_paper(rule=moved)), rests(moved))

    def test_the_spots_are_a_paper_exactly_if_the_rule_rests(self):
        for rule in MADE:
            if rests(rule):
                self.same(lets_rest(rule, ('rests', spots_of(rule))), True)
            else:
                with self.assertRaises(ValueError) as caught:
                    lets_rest(rule, ('rests', spots_of(rule)))
                self.assertEqual(caught.exception.word, 'ring')


if __name__ == '__main__':
    unittest.main()
