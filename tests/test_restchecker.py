"""[31] The checker of papers of rest, compared with a second one, written by the words."""

import random
import unittest

from endclimbs.errors import InvalidPaper
from endclimbs.kinds import is_ends, is_row
from endclimbs.restchecker import lets_rest
from endclimbs.resting import rest_paper, rests
from endclimbs.spots import spots_of
from playing import CASES, big, round_by_words, states_by_words
from samples import CAREFUL, JUMPY, ODD, RULES, TENS, WAITER, Case
from searching import bent_rules, slow_gap

FAR = 10 ** 40
OUT = ('out', 0)
REST = (OUT, OUT, OUT)
FLAT = (((0, 0, 'near'), None), ((0, 1, 'near'), None))
MADE = tuple(bent_rules(150, seed=31))


def top(marks, gap):
    """The greatest room in a gap."""
    return None if gap in (0, len(marks)) else len(range(marks[gap - 1] + 1, marks[gap]))


def enough(table, spot, room):
    return spot in table and big(table[spot]) >= big(room)


def ends_by_words(rule, spot, room):
    """For each case that can come at a spot, the pairs of spots and rooms to which the end can get."""
    marks, phases = rule
    phase, gap, floor = spot
    above = marks[gap:]
    # An integer with this room; the marks below it are left out, as no gap has so much room.
    x = (above[0] - 1 - (10 ** 50 if room is None else room)) if above else (marks[-1] if marks else 0)
    near = [x + 1] if not above or room is None or room > 0 else []
    far = sorted({y for mark in above for y in (mark, mark + 1) if y > above[0]}) + [None]
    for case, ys in enumerate((near, above[:1], far)):
        if case < CASES.index(floor) or not ys:
            continue
        found = []
        for y in ys:
            later, end = round_by_words((above, phases), phase, x, y)
            if end == x:
                found.append(((later, gap, CASES[case]), room))
            elif end is not None and above and end >= above[0]:
                inside = slow_gap(above, end)
                least = end == above[inside - 1]
                wide = top(marks, gap + inside)
                found.append(((later, gap + inside, 'near'), wide if least or wide is None else wide - 1))
            elif end is not None:
                found.append(((later, gap, 'near'), None if room is None else room - 1))
        yield case, found


def goes_round(rule, phase, case, moves):
    for _ in range(len(rule[1]) + 2):
        move, phase = rule[1][phase][case]
        if move not in moves:
            return False
    return True


def slow_rest(rule, entries):
    """The first complaint about entries that are right by form, or True."""
    marks = rule[0]
    for k in range(1, len(entries)):
        if entries[k][0] <= entries[k - 1][0]:
            return 'order', k
    table = dict(entries)
    for gap in range(len(marks) + 1):
        if not enough(table, (0, gap, 'near'), top(marks, gap)):
            return 'first', gap
    for k, (spot, room) in enumerate(entries):
        for case, found in ends_by_words(rule, spot, room):
            if [pair for pair in found if not enough(table, *pair)]:
                return 'entry', (k, case)
            outer = spot[1] == len(marks) and case == 0
            if goes_round(rule, spot[0], case, ('take', 'wait') if outer else ('wait',)):
                return 'ring', (k, case)
    return True


def slow_rings(rule, row, more):
    """The first complaint about a row and more that are right by form, or False."""
    states = states_by_words(rule, row + more)
    rounds = [k for k in range(len(row), len(states)) if big((row + more)[k]) > big(states[k - 1][1])]
    before, after = states[len(row) - 1], states[-1]
    if before[0] != after[0]:
        return 'phase', -1
    if not rounds:
        return 'round', -1
    if len(set(more)) == 1 and len(rounds) == len(more) and before[1] == after[1]:
        return False
    if None not in row + more + (before[1], after[1]) and slow_gap(rule[0], before[1]) == len(rule[0]):
        return False
    return 'ring', -1


class CheckerCase(Case):
    def told(self, rule, thing):
        """The answer, or the word and the place of the complaint."""
        try:
            return lets_rest(rule, thing)
        except InvalidPaper as error:
            return error.word, error.at

    def complains(self, word, at, rule, thing):
        self.fails(InvalidPaper, (word, at), lets_rest, rule, thing)


class ShapeTest(CheckerCase):
    def test_values_of_all_kinds(self):
        for thing in ODD + (None, 0, 'rests', ('rests',), ('rings', (0,)), ('rests', (), ()), ('rings', (0,), (1,), ())):
            self.complains('shape', -1, JUMPY, thing)
        for thing in (['rests', FLAT], ('rest', FLAT), ('rings', FLAT), (True, FLAT), (['rests'], FLAT), (None, FLAT)):
            self.complains('shape', -1, JUMPY, thing)

    def test_rings_by_form(self):
        for row in ODD + (None, 0, (), (1, 0), (None, None), [0], (True,), (0, '1')):
            if not is_row(row):
                self.complains('shape', -1, TENS, ('rings', row, (10,)))
        for more in ODD + (None, 0, (), (11, 10), (None, 12), [11], (True,), (9,), (None, True)):
            if not (is_ends(more) and more and is_row((10,) + more)):
                self.complains('shape', -1, TENS, ('rings', (10,), more))
        self.complains('shape', -1, TENS, ('rests', (10,), (11,)))
        self.same(lets_rest(TENS, ('rings', (10,), (11,))), False)

    def test_entries_by_form(self):
        for entries in ODD + (None, 0, [], list(FLAT), {}):
            if not (isinstance(entries, tuple) and not entries):
                self.complains('shape', -1, JUMPY, ('rests', entries))
        bad = [None, (), [], ((0, 0, 'near'),), [(0, 0, 'near'), None], ((0, 0, 'near'), None, None), ((0, 0), None)]
        bad += [((0, 0, 'near'), room) for room in ODD + (-1,)]
        bad += [((phase, 0, 'near'), None) for phase in ODD + (None, -1, 1)]
        bad += [((0, gap, 'near'), None) for gap in ODD + (None, -1, 2)]
        bad += [((0, 0, floor), None) for floor in ODD + (None, 0, 'Near', 'nea', 'out') if floor != 'near']
        bad += [([0, 0, 'near'], None), ((0, 0, 'near', 0), None), ('near', None)]
        for entry in bad:
            self.complains('shape', -1, JUMPY, ('rests', (entry,)))
            # Ahead of faults of all other kinds.
            self.complains('shape', -1, JUMPY, ('rests', FLAT[::-1] + (entry,)))
        self.same(lets_rest(JUMPY, ('rests', FLAT)), True)
        self.same(lets_rest(rule=JUMPY, thing=('rests', FLAT)), True)


class RingsTest(CheckerCase):
    def test_each_word(self):
        self.complains('phase', -1, TENS, ('rings', (9,), (10,)))
        self.complains('round', -1, TENS, ('rings', (10,), (10,)))
        self.complains('round', -1, JUMPY, ('rings', (0, None), (None, None)))
        self.complains('ring', -1, TENS, ('rings', (0,), (1,)))
        self.complains('ring', -1, TENS, ('rings', (10,), (None,)))
        self.complains('ring', -1, TENS, ('rings', (8,), (9, 9)))
        # No phase of JUMPY is another one, and 5 is a round, but it ends in the outer gap only behind more.
        self.complains('ring', -1, JUMPY, ('rings', (0,), (5,)))
        self.complains('phase', -1, WAITER, ('rings', (0, 5), (5,)))

    def test_both_kinds_of_rings(self):
        self.same([lets_rest(WAITER, ('rings', (0, 5, 10), more)) for more in ((10,), (10, 10, 10))], [False, False])
        self.same([lets_rest(TENS, ('rings', (10,), more)) for more in ((11,), (11, 11), (15, 99, FAR))], [False] * 3)
        stays = ((5,), ((('wait', 0),) * 3,))
        for row, more in (((0,), (3,)), ((0,), (5, 5)), ((0, 3), (7,)), ((0,), (None,)), ((9,), (10, 11)), ((9,), (None,))):
            self.same(lets_rest(stays, ('rings', row, more)), False)
        # Below the mark, waits have to be equal.
        for row, more in (((0,), (3, 4)), ((0,), (3, 5)), ((9,), (10, None))):
            self.complains('ring', -1, stays, ('rings', row, more))
        # The end behind the row has to be in the outer gap, too, whatever waits there.
        self.complains('ring', -1, ((5,), ((('take', 0),) * 3,)), ('rings', (4,), (6,)))
        late = ((5,), ((OUT, OUT, ('wait', 1)), (OUT, OUT, ('take', 1))))
        self.same(states_by_words(late, (0, 7, 7)), ((0, 0, 0), (1, 0, 7), (1, 7, 7)))
        self.complains('ring', -1, late, ('rings', (0, 7), (7,)))

    def test_two_faults(self):
        two = ((5,), ((('take', 1), ('out', 1), OUT), (('take', 0), OUT, OUT)))
        self.complains('phase', -1, two, ('rings', (0,), (1,)))
        self.complains('round', -1, two, ('rings', (3,), (3,)))
        self.complains('ring', -1, two, ('rings', (0,), (1, 2)))

    def test_against_the_second_checker(self):
        source = random.Random(1)
        seen = {}
        for rule in MADE:
            for _ in range(60):
                ends = sorted(source.choices(range(-3, 14), k=source.randint(2, 6)))
                ends += [None] * source.choice((0, 0, 0, 1, 2))
                if source.random() < 0.4:
                    ends += [ends[-1]] * source.randint(1, 4)
                cut = source.randint(1, len(ends) - 1)
                row, more = tuple(ends[:cut]), tuple(ends[cut:])
                if row[-1] is None and row[0] is None:
                    continue
                due = slow_rings(rule, row, more)
                self.same(self.told(rule, ('rings', row, more)), due)
                seen[due if due is False else due[0]] = seen.get(due if due is False else due[0], 0) + 1
        self.assertEqual(set(seen), {False, 'phase', 'round', 'ring'})
        self.assertGreater(min(seen.values()), 100)


class RestsTest(CheckerCase):
    def test_order(self):
        self.complains('order', 1, JUMPY, ('rests', FLAT[::-1]))
        self.complains('order', 1, JUMPY, ('rests', (FLAT[0], FLAT[0], FLAT[1])))
        self.complains('order', 2, JUMPY, ('rests', FLAT + (FLAT[1],)))
        # As strings, at stands ahead of far, and far ahead of near.
        words = tuple(((0, 0, word), None) for word in ('at', 'far', 'near'))
        self.same(lets_rest(JUMPY, ('rests', words + FLAT[1:])), True)
        self.complains('order', 1, JUMPY, ('rests', words[::-1] + FLAT[1:]))
        self.complains('order', 1, JUMPY, ('rests', (((0, 0, 'near'), 3), FLAT[0], FLAT[1])))

    def test_first(self):
        for gap in range(2):
            self.complains('first', gap, JUMPY, ('rests', FLAT[:gap] + FLAT[gap + 1:]))
            less = (FLAT[gap][0], 10 ** 59)
            self.complains('first', gap, JUMPY, ('rests', FLAT[:gap] + (less,) + FLAT[gap + 1:]))
        self.complains('first', 0, JUMPY, ('rests', ()))
        rule = ((5, 9), (REST,))
        for room, due in ((2, ('first', 1)), (3, True), (4, True), (None, True)):
            entries = (((0, 0, 'near'), None), ((0, 1, 'near'), room), ((0, 2, 'near'), None))
            self.same(self.told(rule, ('rests', entries)), due)
        self.same(self.told(((), (REST,)), ('rests', FLAT[:1])), True)
        self.complains('first', 0, ((), (REST,)), ('rests', ()))

    def test_entry_by_each_case_and_move(self):
        for case in range(3):
            for move, spots in (('take', ((1, 1), (1, 1), (1, 2))), ('next', ((1, 1), (1, 1), (1, 2))), ('wait', None)):
                pairs = [OUT, OUT, OUT]
                pairs[case] = (move, 1)
                rule = ((5, 9), (tuple(pairs), REST))
                paper = spots_of(rule)
                self.same(self.told(rule, ('rests', paper)), True)
                for k, (spot, room) in enumerate(paper):
                    if spot[0] == 1:
                        without = paper[:k] + paper[k + 1:]
                        word, (entry, by) = self.told(rule, ('rests', without))
                        self.same((word, by), ('entry', case))
                        self.same(slow_rest(rule, without), (word, (entry, by)))

    def test_rooms(self):
        # Each near take needs one room less; the second one behind 5 needs 1 of 3.
        phases = ((('take', 1), OUT, OUT), (('take', 2), OUT, OUT), REST)
        paper = spots_of(((5, 9), phases))
        rooms = {(0, 1, 'near'): 3, (1, 1, 'near'): 2, (2, 1, 'near'): 1}
        for k, (spot, room) in enumerate(paper):
            if spot in rooms:
                self.same(room, rooms[spot])
                for other, due in ((room - 1, False), (room + 1, True), (None, True)):
                    changed = paper[:k] + ((spot, other),) + paper[k + 1:]
                    if spot[0] == 1 and other != 1:
                        # More room than needed needs more behind it.
                        due = ('entry', (k, 0))
                    elif not due:
                        due = ('first', 1) if spot[0] == 0 else ('entry', (k - 3, 0))
                    elif spot[0] == 0:
                        due = ('entry', (k, 0))
                    self.same(self.told(((5, 9), phases), ('rests', changed)), due)

    def test_rooms_at_marks_and_far(self):
        far = ((5, 8, 12), ((OUT, OUT, ('take', 1)), REST))
        due = (((1, 1, 'near'), 1), ((1, 2, 'near'), 3), ((1, 3, 'near'), None))
        paper = spots_of(far)
        self.same(paper[4:], due)
        for k, fault in ((4, 0), (5, 0), (6, 0)):
            for room in (0, 2, 10 ** 59):
                changed = paper[:k] + ((paper[k][0], room),) + paper[k + 1:]
                lacks = big(room) < big(paper[k][1])
                self.same(self.told(far, ('rests', changed)), ('entry', (fault, 2)) if lacks else True)
        self.same(lets_rest(far, ('rests', paper)), True)
        # Without room behind 5, a far take does not get to its gap, but a take of 5 does.
        narrow = ((5, 6), ((OUT, OUT, ('take', 1)), REST))
        self.assertNotIn((1, 1, 'near'), dict(spots_of(narrow)))
        self.same(lets_rest(narrow, ('rests', spots_of(narrow))), True)
        at = ((5, 6), ((OUT, ('take', 1), OUT), REST))
        self.same(dict(spots_of(at))[(1, 1, 'near')], 0)
        without = tuple(entry for entry in spots_of(at) if entry[0] != (1, 1, 'near'))
        self.complains('entry', (0, 1), at, ('rests', without))

    def test_rooms_in_the_outer_gap(self):
        # Numbers as rooms in the outer gap get below 0 there; near comes without room, too.
        phases = (REST, (('take', 2), OUT, OUT), (('take', 3), OUT, OUT), REST)
        outer = tuple(((phase, 0, 'near'), 0) for phase in (1, 2, 3))
        self.same(lets_rest(((), phases), ('rests', FLAT[:1] + outer)), True)
        self.complains('entry', (1, 0), ((), phases), ('rests', FLAT[:1] + outer[:1]))
        self.complains('entry', (2, 0), ((), phases), ('rests', FLAT[:1] + outer[:2]))
        # Below a mark, without room, near does not come.
        inner = (((0, 0, 'near'), None), ((0, 1, 'near'), None), ((1, 0, 'near'), 0))
        self.same(lets_rest(((5,), phases), ('rests', inner)), True)
        self.complains('entry', (2, 0), ((5,), phases), ('rests', inner[:2] + (((1, 0, 'near'), 1),)))

    def test_ring(self):
        for case in range(3):
            pairs = [OUT, OUT, OUT]
            pairs[case] = ('wait', 0)
            rule = ((5, 9), (tuple(pairs),))
            paper = spots_of(rule)
            first = [k for k, (spot, _) in enumerate(paper) if case >= CASES.index(spot[2])][0]
            self.complains('ring', (first, case), rule, ('rests', paper))
        climbs = ((5,), ((('take', 1), OUT, OUT), (('wait', 0), OUT, OUT)))
        self.complains('ring', (1, 0), climbs, ('rests', spots_of(climbs)))
        self.complains('ring', (1, 0), TENS, ('rests', spots_of(TENS)))
        self.complains('ring', (2, 1), WAITER, ('rests', spots_of(WAITER)))

    def test_which_cases_can_come(self):
        # A ring at near does not count behind the floor at, nor one at at in the outer gap, nor near without room.
        near = ((5, 6), (REST, (('wait', 1), OUT, OUT)))
        base = (((0, 0, 'near'), None), ((0, 1, 'near'), 0), ((0, 2, 'near'), None))
        for spot, room, due in (((1, 0, 'near'), None, ('ring', (3, 0))), ((1, 0, 'at'), None, True),
                                ((1, 0, 'far'), None, True), ((1, 1, 'near'), 0, True),
                                ((1, 1, 'near'), 1, ('ring', (3, 0))), ((1, 2, 'near'), 0, ('ring', (3, 0)))):
            self.same(self.told(near, ('rests', base + ((spot, room),))), due)
        at = ((5, 6), (REST, (OUT, ('wait', 1), OUT)))
        for spot, due in (((1, 0, 'at'), ('ring', (3, 1))), ((1, 1, 'at'), ('ring', (3, 1))), ((1, 2, 'at'), True),
                          ((1, 2, 'near'), True), ((1, 1, 'far'), True)):
            self.same(self.told(at, ('rests', base + ((spot, 0),))), due)
        far = ((5, 6), (REST, (OUT, OUT, ('wait', 1))))
        for gap in range(3):
            self.complains('ring', (3, 2), far, ('rests', base + (((1, gap, 'far'), 0),)))
            self.complains('entry', (3, 2), far, ('rests', base + (((1, gap, 'at'), 0),)))

    def test_entry_ahead_of_ring_and_each_case_in_turn(self):
        rule = ((5,), ((('wait', 0), ('wait', 1), ('wait', 0)), REST))
        self.complains('ring', (0, 2), rule, ('rests', spots_of(rule)))
        base = (((0, 0, 'near'), None), ((0, 1, 'near'), None))
        self.complains('ring', (0, 0), rule, ('rests', base))
        # Without its ring at near, the first entry lacks one at at, then one at far.
        calm = ((5,), ((OUT,) + rule[1][0][1:], rule[1][1]))
        self.complains('entry', (0, 1), calm, ('rests', base))
        self.complains('entry', (0, 2), calm, ('rests', base + (((1, 0, 'at'), None),)))
        full = (((0, 0, 'far'), None),) + base[:1] + (((0, 1, 'far'), None),) + base[1:] + (((1, 0, 'at'), None),)
        self.complains('ring', (0, 2), calm, ('rests', full))

    def test_order_ahead_of_first_ahead_of_entry(self):
        take = ((5, 9), ((('take', 1), OUT, OUT), REST))
        paper = spots_of(take)
        self.complains('order', 1, take, ('rests', (paper[1], paper[0])))
        self.complains('first', 2, take, ('rests', paper[:2]))
        self.complains('entry', (0, 0), take, ('rests', paper[:3]))
        self.complains('entry', (1, 0), take, ('rests', paper[:4]))

    def test_more_entries_and_greater_rooms(self):
        source = random.Random(2)
        for rule in MADE:
            if not rests(rule):
                continue
            for phase in range(len(rule[1])):
                for word in CASES:
                    more = dict(spots_of(rule))
                    spot = (phase, source.randint(0, len(rule[0])), word)
                    more.setdefault(spot, source.choice((0, 1, 5, None)))
                    entries = tuple(sorted(more.items()))
                    self.same(self.told(rule, ('rests', entries)), slow_rest(rule, entries))
        rule = ((0, 5, 9), ((('take', 1), OUT, OUT), REST))
        great = tuple((spot, None) for spot, _ in spots_of(rule))
        self.same(lets_rest(rule, ('rests', great)), True)

    def test_against_the_second_checker(self):
        source = random.Random(3)
        seen = {}
        for rule in MADE + RULES:
            paper = spots_of(rule)
            for _ in range(40):
                changed = dict(paper)
                for _ in range(source.randint(0, 3)):
                    spot = source.choice(sorted(changed)) if changed and source.random() < 0.7 else (
                        source.randrange(len(rule[1])), source.randint(0, len(rule[0])), source.choice(CASES))
                    if source.random() < 0.3:
                        changed.pop(spot, None)
                    else:
                        changed[spot] = source.choice((None, None, 0, 1, 2, 3, FAR))
                entries = sorted(changed.items(), key=lambda entry: entry[0])
                if source.random() < 0.1:
                    source.shuffle(entries)
                due = slow_rest(rule, tuple(entries))
                self.same(self.told(rule, ('rests', tuple(entries))), due)
                if due is True:
                    self.assertTrue(rests(rule))
                word = due if due is True else due[0]
                seen[word] = seen.get(word, 0) + 1
        self.assertEqual(set(seen), {True, 'order', 'first', 'entry', 'ring'})
        self.assertGreater(min(seen.values()), 100)


class PapersTest(CheckerCase):
    def test_a_paper_of_one_rule_is_none_of_another(self):
        self.same(lets_rest(CAREFUL, rest_paper(CAREFUL)), True)
        self.complains('first', 0, JUMPY, ('rests', ()))
        self.complains('entry', (0, 0), CAREFUL, rest_paper(JUMPY))
        self.complains('shape', -1, JUMPY, rest_paper(CAREFUL))

    def test_what_is_accepted_is_true(self):
        for rule in MADE:
            for other in MADE[:40]:
                due = self.told(rule, rest_paper(other))
                if due is True or due is False:
                    self.assertEqual(due, rests(rule))


if __name__ == '__main__':
    unittest.main()
