"""[49], [50] and [52] Rules that are never above other ones on the rows of a span, and papers of it."""

import itertools
import random
import unittest

from endclimbs.alikeness import are_alike
from endclimbs.joint import joint_states
from endclimbs.overchecker import lets_above
from endclimbs.overtaking import above_paper, above_row, never_above
from endclimbs.rulechanges import shifted
from playing import big, states_by_words
from samples import CAREFUL, JUMPY, RULES, TENS, WAITER, Case
from searching import behind, bent_rules
from twins import WAYS, changed

FAR = 10 ** 40
OUT = ((), ((('out', 0),) * 3,))
TAKE = ((), ((('take', 0),) * 3,))
WAIT = ((), ((('wait', 0),) * 3,))
SPANS = ((-4, 1), (0, 7), (1, 5), (3, 3), (4, 9), (8, 13), (-3, 9))


def many_above(rule, other, span):
    """How many elements a shortest row in the span has on which rule is above, 0 if there is none, by all rows."""
    first, top = span
    layer = {((0, first, first), (0, first, first), first)}
    known = set(layer)
    many = 1
    while layer:
        if any(big(state[1]) > big(twin[1]) for state, twin, _ in layer):
            return many
        layer = {(behind(rule, state, y), behind(other, twin, y), y)
                 for state, twin, last in layer for y in range(last, top + 1)} - known
        known |= layer
        many += 1
    return 0


def pairs(many, seed):
    """Pairs of rules: of nothing in common, alike in most, and alike."""
    source = random.Random(seed)
    rules = tuple(bent_rules(many, marks=4, seed=seed))
    others = tuple(bent_rules(many, marks=4, seed=seed + 1))
    for rule, other in zip(rules, others):
        yield rule, other
        yield rule, changed(rule, source)
        yield rule, source.choice(WAYS)(rule, source)


class AboveCase(Case):
    def judge(self, rule, other, span):
        """The told row lies in the span, is a shortest one, and rule is above other on it; tells its length, or 0."""
        due = many_above(rule, other, span)
        row = above_row(rule, other, span)
        self.same(never_above(rule, other, span), due == 0)
        self.assertEqual(0 if row is None else len(row), due)
        paper = above_paper(rule, other, span)
        if row is None:
            self.same(paper, ('never', joint_states(rule, other, span)))
        else:
            self.assertIsInstance(row, tuple)
            self.assertTrue(all(type(y) is int for y in row))
            self.assertEqual((row[0], list(row)), (span[0], sorted(row)))
            self.assertLessEqual(row[-1], span[1])
            ends = [states_by_words(one, row)[-1][1] for one in (rule, other)]
            self.assertGreater(big(ends[0]), big(ends[1]))
            self.assertEqual((len(paper), paper[0], len(paper[1])), (2, 'above', due))
        self.same(lets_above(rule, other, span, paper), due == 0)
        return due


class SearchTest(AboveCase):
    def test_against_all_rows_of_small_spans(self):
        seen = {}
        for k, (rule, other) in enumerate(pairs(60, 201)):
            for span in (SPANS[k % 7], SPANS[(k + 3) % 7]):
                for one, two in ((rule, other), (other, rule)):
                    due = self.judge(one, two, span)
                    seen[due] = seen.get(due, 0) + 1
        self.assertTrue({0, 2, 3, 4} <= set(seen))
        self.assertGreater(min(seen[0], seen[2], seen[3]), 30)

    def test_against_each_single_row(self):
        for rule, other in pairs(12, 203):
            span = (2, 6)
            for many in range(1, 6):
                rows = [(2,) + more for more in itertools.combinations_with_replacement(range(2, 7), many - 1)]
                above = [row for row in rows
                         if big(states_by_words(rule, row)[-1][1]) > big(states_by_words(other, row)[-1][1])]
                row = above_row(rule, other, span)
                if above:
                    self.assertIn(row, above)
                    break
                self.assertTrue(row is None or len(row) > many)

    def test_long_rows(self):
        # Behind so many near takes, all in the span, one of them goes out.
        for many in (3, 6, 9):
            takes = tuple((('take', k + 1),) * 3 for k in range(many))
            rule = ((), takes + ((('out', 0),) * 3,))
            self.same([never_above(rule, TAKE, (0, many)), never_above(rule, TAKE, (0, many + 1))], [True, False])
            self.same(above_row(rule, TAKE, (0, many + 1)), tuple(range(many + 2)))
            self.same(above_row(TAKE, rule, (0, many + 1)), None)

    def test_rows_with_equal_elements(self):
        # The second wait with the same element makes WAITER go out.
        self.same(above_row(WAITER, TENS, (0, 1)), (0, 1, 1))
        self.same(above_row(WAITER, TENS, (0, 0)), None)
        self.same(above_row(TENS, WAITER, (0, 1)), (0, 1))

    def test_each_move_above_each_other(self):
        high = {'wait': 0, 'take': 2, 'next': 5, 'out': None}
        for move, other in itertools.product(high, repeat=2):
            rules = [((5,), (((word, 0),) * 3,)) for word in (move, other)]
            due = (0, 2) if big(high[move]) > big(high[other]) else None
            self.same(above_row(*rules, (0, 5))[:1] if due else above_row(*rules, (0, 4)), (0,) if due else None)
            self.same(never_above(*rules, (0, 4)), due is None)
        self.same([never_above(OUT, OUT, (0, 9)), never_above(TAKE, OUT, (0, 9)), never_above(OUT, TAKE, (0, 9))],
                  [True, True, False])


class SpanTest(AboveCase):
    def test_of_one_integer(self):
        for rule, other in pairs(20, 205):
            self.same(above_row(rule, other, (4, 4)), None)
            self.same(above_paper(rule, other, (4, 4)), ('never', (((0, 4, 4), (0, 4, 4)),)))

    def test_integers_beyond_the_top_do_not_come_in(self):
        self.same([never_above(CAREFUL, JUMPY, (0, top)) for top in range(5)], [True, True, False, False, False])
        self.same(above_row(CAREFUL, JUMPY, (0, 5)), (0, 1, 2))
        # TENS goes out at 11, far above 10 alone.
        self.same([never_above(TENS, TAKE, (0, 10)), never_above(TENS, TAKE, (0, 11))], [True, False])
        self.same(never_above(TENS, TAKE, (10, 22)), True)
        self.same(above_row(TENS, TAKE, (9, 11)), (9, 11))

    def test_great_integers(self):
        for rule, other in pairs(15, 206):
            row = above_row(rule, other, (0, 6))
            moved = above_row(shifted(rule, FAR), shifted(other, FAR), (FAR, FAR + 6))
            self.same(moved, row if row is None else tuple(y + FAR for y in row))
        self.same(above_row(((FAR,), OUT[1]), ((FAR,), TAKE[1]), (-FAR, 2 - FAR)), (-FAR, 1 - FAR))

    def test_the_greatest_small_spans(self):
        for rule, other in zip(bent_rules(12, marks=6, seed=207, places=range(0, 13)),
                               bent_rules(12, marks=6, seed=208, places=range(0, 13))):
            self.judge(rule, other, (0, 12))

    def test_by_name(self):
        self.same([never_above(rule=CAREFUL, other=JUMPY, span=(0, 1)), above_row(rule=CAREFUL, other=JUMPY, span=(0, 2)),
                   above_paper(rule=CAREFUL, other=JUMPY, span=(0, 2))], [True, (0, 1, 2), ('above', (0, 1, 2))])
        self.same(above_paper(CAREFUL, JUMPY, (0, 1)), ('never', (((0, 0, 0), (0, 0, 0)), ((1, 1, 1), (0, 5, 5)))))


class ConsequencesTest(AboveCase):
    def test_itself_and_alike_rules(self):
        source = random.Random(19)
        for rule in tuple(bent_rules(60, marks=5, seed=209)) + RULES:
            twin = rule
            for way in source.choices(WAYS, k=2):
                twin = way(twin, source)
            self.assertTrue(are_alike(rule, twin))
            for span in SPANS:
                self.same([never_above(rule, rule, span), never_above(rule, twin, span), never_above(twin, rule, span)],
                          [True] * 3)

    def test_a_twin_in_the_place_of_a_rule(self):
        source = random.Random(20)
        for rule, other in pairs(25, 210):
            twin = source.choice(WAYS)(rule, source)
            for span in ((0, 6), (3, 9)):
                row, due = above_row(twin, other, span), above_row(rule, other, span)
                self.same(row and len(row), due and len(due))
                row, due = above_row(other, twin, span), above_row(other, rule, span)
                self.same(row and len(row), due and len(due))

    def test_a_third_rule(self):
        rules = tuple(bent_rules(24, marks=3, phases=2, seed=211)) + RULES + (OUT, TAKE, WAIT)
        seen = 0
        for span in ((0, 4), (2, 8)):
            below = {(i, k): never_above(rules[i], rules[k], span) for i in range(len(rules)) for k in range(len(rules))}
            for i, k, m in itertools.permutations(range(len(rules)), 3):
                if below[i, k] and below[k, m]:
                    seen += 1
                    self.assertTrue(below[i, m])
        self.assertGreater(seen, 200)

    def test_a_lesser_top(self):
        seen = 0
        for rule, other in pairs(60, 212):
            told = [never_above(rule, other, (1, top)) for top in range(1, 12)]
            self.assertEqual(told, sorted(told, reverse=True))
            seen += len(set(told)) == 2
        self.assertGreater(seen, 30)

    def test_never_above_both_ways_about(self):
        equal = 0
        for rule, other in pairs(60, 213):
            if never_above(rule, other, (1, 5)) and never_above(other, rule, (1, 5)):
                equal += 1
                for many in range(4):
                    for more in itertools.combinations_with_replacement(range(1, 6), many):
                        ends = [[end for _, end, _ in states_by_words(one, (1,) + more)] for one in (rule, other)]
                        self.assertEqual(*ends)
        self.assertGreater(equal, 30)


if __name__ == '__main__':
    unittest.main()
