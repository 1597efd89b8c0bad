"""[47] and [48] Rules with the same ends on all rows, and shortest rows on which they part."""

import itertools
import random
import unittest

from endclimbs.alikeness import are_alike, parting_row
from endclimbs.choosing import delayed
from endclimbs.kinds import is_row
from endclimbs.resting import rests
from endclimbs.rounds import most_rounds
from endclimbs.rulechanges import shifted
from endclimbs.stepping import end_on
from playing import big, states_by_words
from samples import CAREFUL, JUMPY, RULES, TENS, WAITER, Case
from searching import behind, bent_rules, coming, made_programs, slow_playing, window
from twins import WAYS, changed, doubled_phases, turned_phases

FAR = 10 ** 40
OUT = ('out', 0)
TAKE = ('take', 0)
LEAPING = ((5,), ((('next', 0), ('next', 0), OUT),))


def all_rows_part(rule, other, ints):
    """How many elements a shortest row of the integers and endless has behind which the ends are unlike."""
    layer = {((0, first, first), (0, first, first)) for first in ints}
    known = set(layer)
    many = 1
    while layer:
        many += 1
        new = set()
        for state, twin in layer:
            for y in coming(state, ints + (None,)):
                pair = behind(rule, state, y), behind(other, twin, y)
                if pair[0][1] != pair[1][1]:
                    return many
                new.add(pair)
        layer = new - known
        known |= new
    return None


class AlikeCase(Case):
    def judge(self, rule, other, due=None):
        """The told row is right; due is the number of its elements, if it is known."""
        row = parting_row(rule, other)
        self.same(are_alike(rule, other), row is None)
        self.same(are_alike(other, rule), row is None)
        if row is not None:
            self.assertTrue(is_row(row))
            self.assertNotEqual(states_by_words(rule, row)[-1][1], states_by_words(other, row)[-1][1])
            self.assertEqual(len(parting_row(other, rule)), len(row))
        if due is not None:
            self.assertEqual(row and len(row), due or None)
        return row


class SearchTest(AlikeCase):
    def test_against_all_rows_of_a_window(self):
        source = random.Random(12)
        seen = {}
        for rule in bent_rules(400, marks=4, seed=95):
            other = changed(rule, source)
            if source.random() < 0.5:
                other = source.choice(WAYS)(other, source)
            marks = sorted(rule[0] + other[0])
            due = all_rows_part(rule, other, window(marks, 11))
            self.judge(rule, other, due or 0)
            seen[due] = seen.get(due, 0) + 1
        self.assertTrue({None, 2, 3, 4} <= set(seen))

    def test_rules_that_have_nothing_in_common(self):
        for rule, other in zip(bent_rules(80, seed=96), bent_rules(80, seed=97)):
            self.judge(rule, other, all_rows_part(rule, other, window(sorted(rule[0] + other[0]), 13)) or 0)

    def test_a_told_row_is_a_shortest_one_by_all_rows_of_picked_ends(self):
        source = random.Random(13)
        for rule in bent_rules(60, marks=3, seed=98):
            other = changed(rule, source)
            row = self.judge(rule, other)
            if row is not None and len(row) > 2:
                picked = window(sorted(rule[0] + other[0]), 2) + (None,)
                for many in range(2, min(len(row), 5)):
                    for tried in itertools.combinations_with_replacement(picked, many):
                        if tried[0] is not None:
                            self.assertEqual(states_by_words(rule, tried)[-1][1], states_by_words(other, tried)[-1][1])


class AlikeTest(AlikeCase):
    def test_written_otherwise(self):
        source = random.Random(14)
        for rule in tuple(bent_rules(150, marks=5, phases=6, seed=99)) + RULES:
            other = rule
            for way in source.choices(WAYS, k=3):
                other = way(other, source)
                self.judge(rule, other, 0)
            great = tuple(mark * 10 ** 30 for mark in rule[0])
            self.judge((great, rule[1]), (great, other[1]), 0)

    def test_marks_that_matter_to_nothing(self):
        for marks in ((), (5,), (0, 7, FAR), tuple(range(12))):
            for move in ('take', 'out', 'wait'):
                phases = (((move, 0),) * 3,)
                self.judge((marks, phases), ((), phases), 0)
                self.judge((marks, phases), ((-FAR, 6), phases * 2), 0)
        # Next at them matters.
        self.judge(((5,), ((('next', 0),) * 3,)), ((), ((('next', 0),) * 3,)), 2)
        self.judge(((5, 8), (((OUT,) * 3),)), ((8, 11), (((OUT,) * 3),)), 0)

    def test_the_rule_itself_and_examples(self):
        for rule in tuple(bent_rules(100, seed=100)) + RULES:
            self.judge(rule, rule, 0)
        self.judge(JUMPY, LEAPING, 0)
        self.judge(CAREFUL, JUMPY, 2)
        self.judge(CAREFUL, TENS, 2)
        self.same([are_alike(rule=TENS, other=TENS), parting_row(rule=TENS, other=WAITER) is None], [True, False])


class FarTest(AlikeCase):
    def test_unlike_only_far_away(self):
        takes = ((TAKE,) * 3,)
        two = ((TAKE, TAKE, TAKE), (TAKE, OUT, TAKE))
        base = ((5, FAR), takes)
        # Only at FAR, far above what comes in at 5, the two part.
        row = self.judge(base, ((5, FAR), ((TAKE, ('next', 0), ('next', 0)),)), 2)
        self.assertGreater(big(row[-1]), 5)
        self.judge(base, ((5, FAR, 2 * FAR), takes), 0)
        other = ((5, FAR), ((TAKE, TAKE, ('take', 1)), (TAKE, OUT, TAKE)))
        self.judge(base, other, 3)
        self.judge(((5, FAR), two), base, 0)
        for gap in (FAR, 10 ** 59):
            near = ((0, gap), ((TAKE, TAKE, TAKE),))
            # Phase 3 comes up behind three near takes, and is unlike at the great mark alone.
            chain = ((0, gap), ((('take', 1), TAKE, TAKE), (('take', 2), TAKE, TAKE), (('take', 3), TAKE, TAKE),
                                (('take', 3), ('out', 3), TAKE)))
            row = self.judge(near, chain, 5)
            self.assertEqual(states_by_words(near, row)[-2][0], 0)

    def test_room_has_to_be_enough(self):
        # The rules part at the third near take in one gap, or at top behind two of them, from the mark 0 on.
        def chain(last):
            return ((('take', 1), OUT, OUT), (('take', 2), OUT, OUT), (last, OUT, OUT))
        for marks in ((), (0,), (0, 1), (-FAR, FAR)):
            self.judge((marks, chain(TAKE)), (marks, chain(OUT)), 4)
        climbs = ((('next', 1), OUT, OUT), (('take', 2), OUT, OUT), (('take', 3), OUT, OUT))
        for top, due in ((1, 0), (2, 0), (3, 5), (4, 5), (FAR, 5)):
            rule = ((0, top), climbs + ((OUT, OUT, OUT),))
            other = ((0, top), climbs + ((OUT, TAKE, OUT),))
            self.judge(rule, other, due)
            if top < 5:
                self.assertEqual(all_rows_part(rule, other, window((0, top), 9)), due or None)

    def test_long_climbs_in_the_lowest_gap(self):
        # Behind so many near takes, all below the one mark, the mark comes in.
        for many in (3, 6, 30):
            climbs = tuple((('take', k + 1), OUT, OUT) for k in range(many))
            for mark in (5, FAR):
                self.judge(((mark,), climbs + ((OUT, OUT, OUT),)), ((mark,), climbs + ((OUT, TAKE, OUT),)), many + 2)
                takes = tuple((('take', min(k + 1, many)),) + (('take', k),) * 2 for k in range(many + 1))
                last = takes[:many] + ((takes[many][0], ('out', 0), takes[many][2]),)
                self.judge(((mark,), takes), ((mark,), ((TAKE,) * 3,)), 0)
                self.judge(((mark,), last), ((mark,), ((TAKE,) * 3,)), many + 2)

    def test_unlike_behind_an_endless_element(self):
        rule = ((5,), ((TAKE, TAKE, ('wait', 1)), (OUT, OUT, OUT)))
        other = ((5,), ((TAKE, TAKE, ('wait', 1)), (OUT, OUT, ('wait', 1))))
        self.judge(rule, other, 3)
        last = ((), ((TAKE, TAKE, ('wait', 0)),))
        row = self.judge(last, ((), ((TAKE, TAKE, OUT),)), 2)
        self.assertIsNone(row[-1])
        late = ((), ((TAKE, TAKE, ('wait', 1)), (OUT, OUT, ('wait', 2)), (OUT, OUT, ('wait', 2))))
        row = self.judge(late, ((), late[1][:2] + ((OUT, OUT, OUT),)), 4)
        self.assertEqual(row[1:], (None, None, None))

    def test_unlike_behind_waits(self):
        for many in range(1, 8):
            for case in range(3):
                def waits(last):
                    phases = []
                    for k in range(many):
                        pairs = [TAKE, TAKE, TAKE]
                        pairs[case] = ('wait', k + 1)
                        phases.append(tuple(pairs))
                    return (5, FAR), tuple(phases) + ((last,) * 3,)
                self.judge(waits(TAKE), waits(OUT), many + 2)
                self.judge(waits(TAKE), waits(TAKE), 0)

    def test_waits_at_unlike_integers(self):
        # A wait with a lesser integer lets more follow.
        rule = ((5,), ((('wait', 1), OUT, OUT), (TAKE, ('wait', 2), OUT), (OUT, TAKE, OUT)))
        other = ((5,), ((('wait', 1), OUT, OUT), (TAKE, ('wait', 2), OUT), (OUT, OUT, OUT)))
        self.judge(rule, other, 4)

    def test_delays(self):
        for rule in tuple(bent_rules(20, seed=101)) + RULES:
            self.judge(delayed(rule, 60), delayed(rule, 60), 0)
        self.judge(delayed(((5,), ((OUT,) * 3,)), 60), ((), ((TAKE,) * 3,)), 62)
        self.judge(delayed(JUMPY, 60), delayed(LEAPING, 60), 0)

    def test_twelve_marks_and_six_phases(self):
        source = random.Random(15)
        for rule in bent_rules(12, marks=12, phases=6, seed=102, places=range(0, 10 ** 12)):
            self.judge(rule, doubled_phases(turned_phases(rule, source), source), 0)
            self.judge(rule, changed(rule, source))


class ConsequencesTest(AlikeCase):
    def pairs(self):
        source = random.Random(16)
        for rule in bent_rules(150, seed=103):
            yield rule, changed(rule, source)

    def test_shifted(self):
        for rule, other in self.pairs():
            for by in (-4, FAR):
                row, moved = parting_row(rule, other), parting_row(shifted(rule, by), shifted(other, by))
                self.assertEqual(row and len(row), moved and len(moved))

    def test_alike_to_a_third_one(self):
        source = random.Random(17)
        for rule, other in self.pairs():
            third = source.choice(WAYS)(other, source)
            self.assertTrue(are_alike(other, third))
            self.same(are_alike(rule, third), are_alike(rule, other))

    def test_what_alike_rules_have_in_common(self):
        programs = list(made_programs(15, seed=18))
        seen = 0
        for rule, other in self.pairs():
            if rule != other and are_alike(rule, other):
                seen += 1
                self.same(rests(rule), rests(other))
                self.same([most_rounds(rule, first) for first in range(-2, 9)],
                          [most_rounds(other, first) for first in range(-2, 9)])
                for program in programs:
                    if slow_playing(rule, program) is not None:
                        self.same(end_on(rule, program), end_on(other, program))
        self.assertGreater(seen, 20)


if __name__ == '__main__':
    unittest.main()
