"""[36] and [37] Exactness and excesses in spans, compared with all rows of small spans."""

import itertools
import unittest

from endclimbs.excesses import excess_row, greatest_excess, inexact_row, is_exact
from playing import big, states_by_words
from samples import CAREFUL, JUMPY, RULES, TENS, WAITER, Case
from searching import behind, bent_rules, waiting

FAR = 10 ** 40
OUT = ('out', 0)
STAYS = ((5,), ((('wait', 0),) * 3,))
MADE = tuple(bent_rules(120, marks=4, seed=61))


def excess_by_words(rule, row):
    """The excess of a row, None if it is endless; no integer and no None if the end waits for ever."""
    state = states_by_words(rule, row)[-1]
    for _ in range(len(rule[1]) + 1):
        if waiting(state):
            state = behind(rule, state, row[-1])
    if waiting(state):
        return 'none'
    return None if state[1] is None else state[1] - row[-1]


def shortest_rows(rule, span):
    """For each excess of rows in a span how many elements a shortest one has, by all states with a last element."""
    first, top = span
    layer = {((0, first, first), first): (first,)}
    known = dict(layer)
    found = {}
    while layer:
        for row in layer.values():
            excess = excess_by_words(rule, row)
            found[excess] = min(len(row), found.get(excess, len(row)))
        new = {}
        for (state, last), row in layer.items():
            for y in range(last, top + 1):
                key = (behind(rule, state, y), y)
                if key not in known:
                    new[key] = known[key] = row + (y,)
        layer = new
    found.pop('none', None)
    return found


class ExcessTest(Case):
    def judge(self, rule, span, found):
        """found has for each excess the length of a shortest row."""
        greatest = max(found, key=big)
        self.same(greatest_excess(rule, span), greatest)
        row = excess_row(rule, span)
        self.same((excess_by_words(rule, row), len(row)), (greatest, found[greatest]))
        bad = [many for excess, many in found.items() if excess != 0]
        other = inexact_row(rule, span)
        self.same(is_exact(rule, span), not bad)
        self.assertEqual(other is None, not bad)
        for told in (row,) if other is None else (row, other):
            self.assertIsInstance(told, tuple)
            self.assertTrue(told[0] == span[0] and told[-1] <= span[1] and list(told) == sorted(told))
        if other is not None:
            self.assertNotIn(excess_by_words(rule, other), (0, 'none'))
            self.assertEqual(len(other), min(bad))

    def test_against_each_single_row(self):
        for rule in MADE[:60] + RULES:
            for span in ((-1, 2), (3, 5), (4, 7)):
                found = {}
                for many in range(1, 7):
                    for more in itertools.combinations_with_replacement(range(span[0], span[1] + 1), many - 1):
                        row = span[:1] + more
                        excess = excess_by_words(rule, row)
                        if excess != 'none':
                            found.setdefault(excess, many)
                due = shortest_rows(rule, span)
                # Rows of six elements are enough for nearly all excesses of spans as small.
                self.assertEqual(found, {excess: many for excess, many in due.items() if many < 7})
                self.judge(rule, span, due)

    def test_spans_around_below_and_above_the_marks(self):
        for rule in MADE:
            for span in ((-6, -3), (-3, 4), (2, 9), (0, 0), (7, 12), (9, 15)):
                self.judge(rule, span, shortest_rows(rule, span))

    def test_the_greatest_spans(self):
        for rule in MADE[:40] + tuple(bent_rules(20, marks=6, seed=62, places=range(0, 12))) + RULES:
            for first in (-4, 0, 5):
                self.judge(rule, (first, first + 12), shortest_rows(rule, (first, first + 12)))

    def test_great_integers(self):
        for rule in bent_rules(40, seed=63):
            moved = (tuple(mark + FAR for mark in rule[0]), rule[1])
            for span in ((-1, 5), (3, 8)):
                far = (span[0] + FAR, span[1] + FAR)
                self.judge(moved, far, shortest_rows(moved, far))
                self.same(greatest_excess(moved, far), greatest_excess(rule, span))
        rule = ((0, FAR), ((('next', 0),) * 3,))
        self.same([greatest_excess(rule, (1, 9)), excess_row(rule, (1, 9))], [FAR - 2, (1, 2)])

    def test_rows_without_settled_end_are_left_out(self):
        # Every round waits for ever: only rows without any have a settled end.
        self.same([is_exact(STAYS, (0, 9)), inexact_row(STAYS, (0, 9)), greatest_excess(STAYS, (0, 9)),
                   excess_row(STAYS, (0, 9))], [True, None, 0, (0,)])
        rule = ((5,), ((('wait', 0), ('next', 0), ('wait', 0)),))
        self.same([is_exact(rule, (0, 9)), is_exact(rule, (4, 4))], [True, True])
        # Behind waits the end goes out, on rows of two elements.
        late = ((5,), ((('wait', 1),) * 3, (('wait', 2),) * 3, (OUT, OUT, OUT)))
        self.same([greatest_excess(late, (0, 1)), len(excess_row(late, (0, 1))), len(inexact_row(late, (0, 1)))],
                  [None, 2, 2])
        self.same(greatest_excess(WAITER, (0, 9)), None)

    def test_spans_of_one_integer(self):
        for rule in RULES + MADE[:20]:
            for first in (0, 5, 10):
                self.same([is_exact(rule, (first, first)), inexact_row(rule, (first, first)),
                           greatest_excess(rule, (first, first)), excess_row(rule, (first, first))],
                          [True, None, 0, (first,)])

    def test_an_idle_element_makes_the_excess_less(self):
        # From 0 the end is 5 behind 1; it is 4 above that, and not above 5.
        self.same([excess_by_words(JUMPY, (0, 1)), excess_by_words(JUMPY, (0, 1, 5))], [4, 0])
        self.same([greatest_excess(JUMPY, (0, 5)), excess_row(rule=JUMPY, span=(0, 5))], [4, (0, 1)])
        self.same([greatest_excess(rule=JUMPY, span=(4, 5)), is_exact(rule=CAREFUL, span=(0, 1))], [0, True])
        self.same(inexact_row(rule=CAREFUL, span=(0, 2)), (0, 1, 2))


class ConsequencesTest(Case):
    def test_exact_is_that_the_greatest_excess_is_nothing(self):
        for rule in MADE:
            for span in ((-2, 4), (0, 1), (3, 9)):
                self.same(is_exact(rule, span), greatest_excess(rule, span) == 0)
                self.same(is_exact(rule, span), inexact_row(rule, span) is None)

    def test_with_a_greater_top_it_is_not_less(self):
        for rule in MADE:
            found = [big(greatest_excess(rule, (0, top))) for top in range(0, 10)]
            self.assertEqual(found, sorted(found))

    def test_only_next_and_out_lead_above(self):
        for rule in bent_rules(60, seed=64, moves=('take', 'wait')):
            calm = tuple(tuple((move if move in ('take', 'wait') else 'take', later) for move, later in phase)
                         for phase in rule[1])
            self.same(is_exact((rule[0], calm), (-2, 9)), True)
        self.same(is_exact(TENS, (0, 10)), True)


if __name__ == '__main__':
    unittest.main()
