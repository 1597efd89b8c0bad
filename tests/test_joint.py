"""[45] and [46] Joint states of two rules, compared with all rows of small spans."""

import itertools
import unittest

from endclimbs.joint import joint_states
from playing import big, states_by_words
from samples import CAREFUL, JUMPY, RULES, TENS, WAITER, Case
from searching import behind, bent_rules

FAR = 10 ** 40
MADE = tuple(bent_rules(60, marks=4, seed=91))
PAIRS = tuple(zip(MADE, bent_rules(60, marks=4, seed=92)))


def numbers(joint):
    """The six numbers of a joint state, endless as a great integer."""
    return [big(number) for state in joint for number in state]


def joint_by_rows(rule, other, span):
    """The joint states behind all rows in a span, each followed by every integer that is at least its last element."""
    first, top = span
    found = {((0, first, first), (0, first, first), first)}
    todo = list(found)
    while todo:
        state, twin, last = todo.pop()
        for y in range(last, top + 1):
            new = behind(rule, state, y), behind(other, twin, y), y
            if new not in found:
                found.add(new)
                todo.append(new)
    return tuple(sorted({(state, twin) for state, twin, _ in found}, key=numbers))


class JointTest(Case):
    def test_against_each_single_row(self):
        for rule, other in PAIRS:
            for span in ((0, 2), (4, 6)):
                rows = [span[:1] + more for many in range(6)
                        for more in itertools.combinations_with_replacement(range(span[0], span[1] + 1), many)]
                due = {(states_by_words(rule, row)[-1], states_by_words(other, row)[-1]) for row in rows}
                told = joint_states(rule, other, span)
                self.assertTrue(due <= set(told))
                # What rows of six elements do not get to is there for longer ones only.
                self.same(told, joint_by_rows(rule, other, span))

    def test_spans_of_all_sizes(self):
        for rule, other in PAIRS:
            for span in ((-3, 4), (0, 0), (2, 9), (8, 12)):
                self.same(joint_states(rule, other, span), joint_by_rows(rule, other, span))
        for rule, other in itertools.product(RULES, repeat=2):
            for span in ((0, 12), (3, 11)):
                self.same(joint_states(rule, other, span), joint_by_rows(rule, other, span))

    def test_both_ways_about(self):
        for rule, other in PAIRS:
            turned = {(twin, state) for state, twin in joint_states(other, rule, (0, 7))}
            self.assertEqual(set(joint_states(rule, other, (0, 7))), turned)
            self.same(joint_states(rule, rule, (0, 7)),
                      tuple((state, state) for state, _ in joint_states(rule, rule, (0, 7))))

    def test_the_order(self):
        endless = 0
        for rule, other in PAIRS:
            told = joint_states(rule, other, (-1, 8))
            self.assertIsInstance(told, tuple)
            self.assertEqual(len(set(told)), len(told))
            self.assertEqual([numbers(joint) for joint in told], sorted(numbers(joint) for joint in told))
            endless += any(None in state for joint in told for state in joint)
        self.assertGreater(endless, 40)
        out = ((5,), ((('out', 0),) * 3,))
        take = ((), ((('take', 0),) * 3,))
        self.same(joint_states(take, out, (-1, 1)),
                  (((0, -1, -1),) * 2, ((0, 0, 0), (0, None, None)), ((0, 1, 1), (0, None, None))))
        self.same(joint_states(out, take, (-1, 1)),
                  (((0, -1, -1),) * 2, ((0, None, None), (0, 0, 0)), ((0, None, None), (0, 1, 1))))

    def test_both_endless(self):
        out = ((5,), ((('out', 0),) * 3,))
        self.same(joint_states(out, out, (0, 9)), (((0, 0, 0),) * 2, ((0, None, None),) * 2))

    def test_what_is_between_both_lasts(self):
        # JUMPY is at 5 and not moved by 2 and 3, which CAREFUL takes.
        told = joint_states(CAREFUL, JUMPY, (0, 3))
        self.assertIn(((1, 3, 3), (0, 5, 5)), told)
        self.assertIn(((1, None, None), (0, 5, 5)), told)

    def test_waiting(self):
        told = joint_states(WAITER, TENS, (0, 2))
        self.assertIn(((1, 0, 1), (0, 1, 1)), told)
        self.assertIn(((0, None, None), (0, 1, 1)), told)
        self.same(told, joint_by_rows(WAITER, TENS, (0, 2)))

    def test_great_integers(self):
        for rule, other in PAIRS[:20]:
            far = [(tuple(mark + FAR for mark in marks), phases) for marks, phases in (rule, other)]
            due = [tuple([tuple([phase, end if end is None else end + FAR, last if last is None else last + FAR])
                          for phase, end, last in joint]) for joint in joint_states(rule, other, (0, 5))]
            self.same(joint_states(*far, (FAR, FAR + 5)), tuple(due))
        self.same(joint_states(rule=CAREFUL, other=JUMPY, span=(0, 0)), (((0, 0, 0), (0, 0, 0)),))


if __name__ == '__main__':
    unittest.main()
