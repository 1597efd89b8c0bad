"""[51] The checker of papers of whether a rule is ever above another one."""

import random
import unittest

from endclimbs.errors import InvalidPaper
from endclimbs.endvalues import End
from endclimbs.joint import joint_states
from endclimbs.overchecker import lets_above
from endclimbs.overtaking import above_paper, above_row
from endclimbs.rules import Rule
from playing import big, states_by_words
from samples import CAREFUL, JUMPY, ODD, RULES, TENS, WAITER, Case, changed_at, places_in
from searching import behind, bent_rules
from twins import changed

FAR = 10 ** 40
TAKE = ((), ((('take', 0),) * 3,))
OUT = ((), ((('out', 0),) * 3,))
WAIT = ((), ((('wait', 0),) * 3,))
START = ((0, 0, 0), (0, 0, 0))
SPAN = (0, 2)


def integer(thing):
    return type(thing) is int


def end(thing):
    return thing is None or integer(thing)


def state_by_form(rule, thing):
    if type(thing) is not tuple or len(thing) != 3:
        return False
    phase, high, last = thing
    return integer(phase) and 0 <= phase < len(rule[1]) and end(high) and end(last) and big(last) >= big(high)


def joint_by_form(rule, other, thing):
    if type(thing) is not tuple or len(thing) != 2:
        return False
    if not state_by_form(rule, thing[0]) or not state_by_form(other, thing[1]):
        return False
    lasts = [big(last) for _, _, last in thing]
    waiting = [big(last) > big(high) for _, high, last in thing]
    return not (waiting[0] and lasts[0] > lasts[1]) and not (waiting[1] and lasts[1] > lasts[0])


def row_by_words(rule, other, span, row):
    if row == () or not integer(row[0]) or row[0] != span[0]:
        return 'first', -1
    for k, y in enumerate(row):
        if k and (not integer(y) or y < row[k - 1] or y > span[1]):
            return 'element', k
    ends = [big(states_by_words(one, row)[-1][1]) for one in (rule, other)]
    return False if ends[0] > ends[1] else ('end', -1)


def by_words(rule, other, span, thing):
    """What lets_above returns, or the word and the place of its complaint."""
    if type(thing) is not tuple or len(thing) != 2 or type(thing[0]) is not str or type(thing[1]) is not tuple:
        return 'shape', -1
    word, listed = thing
    if word == 'above':
        return row_by_words(rule, other, span, listed)
    if word != 'never':
        return 'shape', -1
    for k, joint in enumerate(listed):
        if not joint_by_form(rule, other, joint):
            return 'state', k
    if ((0, span[0], span[0]),) * 2 not in listed:
        return 'first', -1
    for k, (state, twin) in enumerate(listed):
        if big(state[1]) > big(twin[1]):
            return 'above', k
        for y in range(span[0], span[1] + 1):
            if y >= min(big(state[2]), big(twin[2])) and (behind(rule, state, y), behind(other, twin, y)) not in listed:
                return 'next', (k, y)
    return True


class PaperCase(Case):
    def judge(self, rule, other, span, thing):
        """Compare with the words; tells what came out."""
        due = by_words(rule, other, span, thing)
        if isinstance(due, tuple):
            self.fails(InvalidPaper, due, lets_above, rule, other, span, thing)
            return due[0]
        self.same(lets_above(rule, other, span, thing), due)
        return due

    def complains(self, word, at, thing, rule=CAREFUL, other=JUMPY, span=SPAN):
        self.assertEqual(by_words(rule, other, span, thing), (word, at))
        self.fails(InvalidPaper, (word, at), lets_above, rule, other, span, thing)


class ComparedTest(PaperCase):
    def test_papers_with_something_changed(self):
        source = random.Random(21)
        things = (0, 1, 2, 5, 9, -1, None, True, False, 'never', 'above', (), [], (0,), (0, 0, 0), START, START[:1], End(0))
        seen = {}
        for rule in tuple(bent_rules(120, seed=221)) + RULES:
            other = changed(rule, source) if source.random() < 0.7 else source.choice(RULES)
            span = source.choice(((0, 2), (1, 4), (-1, 3), (3, 7)))
            paper = above_paper(rule, other, span)
            self.judge(rule, other, span, paper)
            places = list(places_in(paper))
            for _ in range(25):
                one = changed_at(paper, source.choice(places), source.choice(things))
                two = changed_at(paper, source.choice(places), source.choice(things))
                for thing in (one, two, (paper[0], one[1:]), (one[0], paper[1])):
                    word = self.judge(rule, other, span, thing)
                    seen[word] = seen.get(word, 0) + 1
        self.assertLessEqual({True, False, 'shape', 'first', 'element', 'end', 'state', 'next'}, set(seen))

    def test_sets_of_states(self):
        source = random.Random(22)
        seen = {}
        for rule, other in zip(bent_rules(150, seed=222), bent_rules(150, seed=223)):
            span = source.choice(((0, 2), (1, 4), (4, 7)))
            listed = list(joint_states(rule, other, span))
            source.shuffle(listed)
            listed += source.choices(listed, k=2)
            self.judge(rule, other, span, ('never', tuple(listed)))
            for k in source.sample(range(len(listed)), min(4, len(listed))):
                word = self.judge(rule, other, span, ('never', tuple(listed[:k] + listed[k + 1:])))
                seen[word] = seen.get(word, 0) + 1
            free = [tuple((source.randrange(len(one[1])), high, source.choice((high, high + 1, high + 2)))
                          for one, high in ((rule, source.randint(-3, 3)), (other, source.randint(0, 5))))
                    for _ in range(3)]
            for joint in free:
                word = self.judge(rule, other, span, ('never', tuple(listed + [joint])))
                seen[word] = seen.get(word, 0) + 1
        self.assertLessEqual({True, 'first', 'state', 'above', 'next'}, set(seen))

    def test_rows(self):
        source = random.Random(23)
        seen = {}
        for rule, other in zip(bent_rules(100, seed=224), bent_rules(100, seed=225)):
            for _ in range(10):
                row = tuple([0] + sorted(source.choices(range(0, 8), k=source.randint(0, 5))))
                if source.random() < 0.3:
                    row = changed_at(row, (source.randrange(len(row)),), source.choice((True, None, '1', 1, -1, 9, ())))
                word = self.judge(rule, other, (0, 6), ('above', row))
                seen[word] = seen.get(word, 0) + 1
        self.assertEqual({False, 'first', 'element', 'end'}, set(seen))


class ShapeTest(PaperCase):
    def test_values_of_all_kinds(self):
        good = ('never', (START,))
        for thing in ODD + (None, 0, 'never', ('never',), ('never', (), ()), list(good), ['never', ()], (), End(0),
                            ('above', [0, 1, 2]), ('never', [START]), ('never', None), ('above', 'x'), ('above', 0),
                            ('rests', ()), ('Above', (0, 1, 2)), ('', ()), (None, ()), (True, ()), (['above'], (0, 1, 2)),
                            (('above',), (0, 1, 2)), ((), 'above'), Rule.of(JUMPY), (Rule.of(JUMPY), ()), (End(0), ())):
            self.complains('shape', -1, thing)
        self.same(lets_above(rule=CAREFUL, other=JUMPY, span=SPAN, thing=('above', (0, 1, 2))), False)


class AboveTest(PaperCase):
    def test_rows_on_which_a_rule_is_above(self):
        for row in ((0, 1, 2), (0, 0, 1, 2), (0, 1, 1, 2), (0, 1, 2, 2), (0, 0, 0, 1, 1, 1, 2, 2, 2)):
            self.same(lets_above(CAREFUL, JUMPY, SPAN, ('above', row)), False)
        self.same(lets_above(JUMPY, CAREFUL, SPAN, ('above', (0, 1))), False)
        self.same(lets_above(OUT, TAKE, (FAR, FAR + 1), ('above', (FAR, FAR + 1))), False)

    def test_first(self):
        for row in ((), (1, 1, 2), (-1, 0, 1), (None,), (True, 1, 2), (False, 1, 2), ('0', 1, 2), ((0,), 1), (End(0), 1), (2,)):
            self.complains('first', -1, ('above', row))
        # True is not 1, and False is not 0.
        self.complains('first', -1, ('above', (True, 2)), OUT, TAKE, (1, 3))
        self.complains('first', -1, ('above', (False, 2, 1, 'x')))

    def test_element(self):
        for element in (-1, 3, FAR, None, True, '1', (1,), [1], End(1)):
            self.complains('element', 1, ('above', (0, element)))
            self.complains('element', 1, ('above', (0, element, element, 'x')))
            self.complains('element', 2, ('above', (0, 1, element)))
            self.complains('element', 3, ('above', (0, 1, 2, element)))
        self.complains('element', 2, ('above', (0, 2, 1)))
        self.complains('element', 1, ('above', (0, None)), OUT, TAKE, (0, FAR))

    def test_end(self):
        for row in ((0,), (0, 0), (0, 1), (0, 2), (0, 2, 2)):
            self.complains('end', -1, ('above', row))
        # Above on the way, but no more behind the last element.
        falls = ((5,), ((('next', 0),) * 3,))
        self.same(lets_above(falls, TAKE, (0, 9), ('above', (0, 1))), False)
        self.complains('end', -1, ('above', (0, 1, 5)), falls, TAKE, (0, 9))
        self.complains('end', -1, ('above', (0, 1)), OUT, OUT)
        self.same(lets_above(TAKE, WAIT, SPAN, ('above', (0, 1))), False)


class NeverTest(PaperCase):
    def test_states_in_any_order_and_more(self):
        listed = joint_states(CAREFUL, JUMPY, (0, 1))
        more = ((1, 1, 1), (0, None, None))
        for states in (listed, listed[::-1], listed * 2, listed + (more,), (more,) + listed + (more,)):
            self.same(lets_above(CAREFUL, JUMPY, (0, 1), ('never', states)), True)

    def test_state(self):
        listed = joint_states(CAREFUL, JUMPY, (0, 1))
        wrong = (None, 0, 'x', (), START[:1], START + START[:1], list(START), (START[0], list(START[0])), (0, 0, 0),
                 ((2, 0, 0), (0, 0, 0)), ((0, 0, 0), (1, 0, 0)), ((-1, 0, 0), (0, 0, 0)), ((True, 1, 1), (0, 1, 1)),
                 ((0, True, 1), (0, 1, 1)), ((0, 1, 1), (0, 1, True)), ((0, 1, 1), (False, 1, 1)), ((0, 0), (0, 0, 0)),
                 ((0, 0, 0, 0), (0, 0, 0)), ((0, 1, 0), (0, 1, 1)), ((0, None, 5), (0, 5, 5)), ((0, '0', 0), (0, 0, 0)),
                 ((None, 0, 0), (0, 0, 0)), (End(0), End(0)))
        for thing in wrong:
            for k in range(3):
                states = listed * 2
                self.complains('state', k, ('never', states[:k] + (thing,) + states[k:]), span=(0, 1))
        self.complains('state', 0, ('never', (wrong[0], wrong[1])))
        self.complains('state', 1, ('never', (START, wrong[0], wrong[1])))

    def test_a_last_that_waits_above_the_other(self):
        listed = joint_states(WAIT, WAIT, SPAN)
        for joint in (((0, 0, 2), (0, 0, 1)), ((0, 0, 1), (0, 0, 2)), ((0, 0, 2), (0, 1, 1)), ((0, 1, 1), (0, 0, 2)),
                      ((0, 0, None), (0, 0, 2)), ((0, 0, 1), (0, 1, 2)), ((0, 0, None), (0, 9, 9))):
            self.complains('state', len(listed), ('never', listed + (joint,)), WAIT, WAIT)
        for joint in (((0, 0, 2), (0, 2, 2)), ((0, 0, 2), (0, 0, 2)), ((0, 0, 2), (0, None, None)), ((0, 0, 2), (0, 9, 9)),
                      ((0, 0, None), (0, 0, None)), ((0, 0, None), (0, None, None))):
            self.assertNotEqual(self.judge(WAIT, WAIT, SPAN, ('never', listed + (joint,))), 'state')

    def test_first(self):
        self.complains('first', -1, ('never', ()))
        self.complains('first', -1, ('never', (((1, 0, 0), (0, 0, 0)), ((1, 1, 1), (0, 5, 5)))))
        self.complains('first', -1, ('never', (((0, 1, 1), (0, 1, 1)),)))
        # A state at which rule is above, and one of which what follows is not there, do not count yet.
        self.complains('first', -1, ('never', (((0, 5, 5), (0, 0, 0)),)))

    def test_above(self):
        listed = joint_states(JUMPY, CAREFUL, (0, 1))
        self.complains('above', 1, ('never', listed), JUMPY, CAREFUL, (0, 1))
        self.complains('above', 0, ('never', listed[::-1]), JUMPY, CAREFUL, (0, 1))
        self.complains('above', 0, ('never', (((0, None, None), (0, 5, 5)), START)), JUMPY, JUMPY, (0, 0))
        # What follows of the first one comes ahead of the second one.
        self.complains('next', (0, 1), ('never', (START, ((1, 2, 2), (0, 0, 0)))), span=(0, 1))
        # Of one and the same state, above comes first.
        self.complains('above', 0, ('never', (((1, 2, 2), (0, 0, 0)), START)), span=(0, 1))

    def test_next(self):
        self.complains('next', (0, 1), ('never', (START,)))
        self.same(joint_states(JUMPY, JUMPY, SPAN), (START, ((0, 5, 5), (0, 5, 5))))
        takes = joint_states(TAKE, TAKE, SPAN)
        self.same(takes, (START, ((0, 1, 1), (0, 1, 1)), ((0, 2, 2), (0, 2, 2))))
        self.complains('next', (0, 1), ('never', (takes[0], takes[2])), TAKE, TAKE)
        self.complains('next', (0, 2), ('never', takes[:2]), TAKE, TAKE)
        self.complains('next', (0, 2), ('never', takes[1::-1]), TAKE, TAKE)
        self.complains('next', (0, 1), ('never', takes[:2]), WAIT, TAKE)
        # What is behind a state that is never reached has to be there, too.
        self.complains('next', (3, 1), ('never', takes + (((0, 0, 0), (0, 2, 2)),)), TAKE, TAKE)
        behind = ((0, 1, 1), (0, 2, 2)), ((0, 2, 2), (0, 2, 2))
        self.same(lets_above(TAKE, TAKE, SPAN, ('never', takes + (((0, 0, 0), (0, 2, 2)),) + behind)), True)
        # At endless ends nothing comes in any more.
        self.same(lets_above(OUT, OUT, SPAN, ('never', (((0, None, None), (0, None, None)), START))), True)

    def test_below_the_span(self):
        low = ((0, -5, -5), (0, -5, -5))
        self.complains('next', (0, 3), ('never', (low, ((0, 3, 3), (0, 3, 3)))), OUT, OUT, (3, 3))
        self.same(lets_above(OUT, OUT, (3, 3), ('never', (low, ((0, 3, 3), (0, 3, 3)), ((0, None, None), (0, None, None))))), True)
        self.same(lets_above(JUMPY, JUMPY, (9, 9), ('never', (((0, 9, 9), (0, 9, 9)), ((0, 12, 12), (0, 12, 12))))), True)

    def test_a_state_left_out(self):
        source = random.Random(24)
        for rule in tuple(bent_rules(40, seed=226)) + RULES:
            listed = joint_states(rule, rule, (0, 6))
            self.same(lets_above(rule, rule, (0, 6), ('never', listed)), True)
            for k in range(len(listed)):
                left = list(listed[:k] + listed[k + 1:])
                source.shuffle(left)
                word = self.judge(rule, rule, (0, 6), ('never', tuple(left)))
                self.assertEqual(word, 'first' if k == listed.index(((0, 0, 0),) * 2) else 'next')

    def test_waiting_ends(self):
        listed = joint_states(WAITER, WAITER, (0, 3))
        self.same(lets_above(WAITER, WAITER, (0, 3), ('never', listed)), True)
        self.judge(WAITER, TENS, (0, 3), ('never', joint_states(WAITER, TENS, (0, 3))))
        self.assertIsNotNone(above_row(WAITER, TENS, (0, 3)))


if __name__ == '__main__':
    unittest.main()
