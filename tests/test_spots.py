"""[27] The spots behind rows, and behind steady ones, with the greatest rooms."""

import unittest

from endclimbs.spots import spots_of, steady_spots
from samples import CAREFUL, JUMPY, RULES, TENS, WAITER, Case
from searching import bent_rules, slow_spots

FAR = 10 ** 40
OUT = ('out', 0)
ALL_TAKE = ((('take', 0),) * 3,)


class SpotsTest(Case):
    def compare(self, rules):
        for rule in rules:
            self.same(spots_of(rule), slow_spots(rule))
            self.same(steady_spots(rule), slow_spots(rule, True))

    def test_against_all_rows_of_a_window(self):
        self.compare(RULES)
        self.compare(bent_rules(400))

    def test_more_marks_and_phases(self):
        self.compare(bent_rules(60, marks=6, phases=5, places=range(0, 12), seed=5))
        self.compare(bent_rules(30, marks=2, phases=4, places=range(0, 25), seed=6))

    def test_rules_without_marks(self):
        self.compare(bent_rules(60, marks=0, seed=9))
        self.same(spots_of(((), ALL_TAKE)), (((0, 0, 'near'), None),))
        # Only endless can be far there, and it waits.
        waits = ((), ((OUT, OUT, ('wait', 1)), (OUT, OUT, OUT)))
        self.same(spots_of(waits), (((0, 0, 'near'), None), ((1, 0, 'far'), None)))
        self.same(steady_spots(waits), (((0, 0, 'near'), None),))

    def test_gaps_without_room(self):
        self.compare(bent_rules(80, marks=4, places=range(0, 5), seed=10))
        # At 5 there is no integer between 5 and 6: the near take leads to phase 1 only elsewhere.
        rule = ((5, 6), ((('take', 1), OUT, OUT), (OUT, OUT, OUT)))
        due = (((0, 0, 'near'), None), ((0, 1, 'near'), 0), ((0, 2, 'near'), None))
        self.same(spots_of(rule), due + (((1, 0, 'near'), None), ((1, 2, 'near'), None)))

    def test_far_takes_do_not_get_to_the_upper_mark(self):
        rule = ((5, 8, 9, 11), ((OUT, OUT, ('take', 1)), (OUT, OUT, OUT)))
        found = dict(spots_of(rule))
        # Above 5 the integer 6 has the room 1 below 8, and 5 itself would have 2.
        self.same(found[(1, 1, 'near')], 1)
        # From 5 on 8 is the upper mark, so the gap of 8 is got to from below 5 only; that of 9 at the mark.
        self.same([found[(1, gap, 'near')] for gap in (2, 3, 4)], [0, 1, None])
        lone = ((5, 6), ((OUT, OUT, ('take', 1)), (OUT, OUT, OUT)))
        self.assertNotIn((1, 1, 'near'), dict(spots_of(lone)))

    def test_great_gaps(self):
        rule = ((0, FAR), ((('take', 1), ('take', 0), OUT), (('take', 2), ('take', 0), OUT), (OUT, ('take', 0), OUT)))
        found = dict(spots_of(rule))
        self.same([found[(phase, 1, 'near')] for phase in range(3)], [FAR - 1, FAR - 2, FAR - 3])
        self.same(steady_spots(rule), spots_of(rule))
        ring = ((0, FAR), ((('take', 1), OUT, OUT), (('take', 0), OUT, OUT)))
        self.same(spots_of(ring)[1:3], (((0, 1, 'near'), FAR - 1), ((0, 2, 'near'), None)))
        self.same(dict(spots_of(ring))[(1, 1, 'near')], FAR - 2)
        far = ((-FAR, 0, FAR), ((OUT, OUT, ('take', 1)), (OUT, OUT, OUT)))
        self.same([dict(spots_of(far))[(1, gap, 'near')] for gap in (1, 2, 3)], [FAR - 2, FAR - 1, None])

    def test_long_climbs_in_the_lowest_gap(self):
        for many in (3, 6, 30):
            phases = tuple((('take', k + 1), OUT, OUT) for k in range(many)) + ((OUT, ('take', 0), OUT),)
            found = dict(spots_of(((5,), phases)))
            self.same([found[(k, 0, 'near')] for k in range(many + 1)], [None] * (many + 1))
            self.same(spots_of(((5,), phases)), steady_spots(((5,), phases)))
            if many < 7:
                self.compare([((5,), phases), ((0, 9), phases)])

    def test_waits_at_each_case(self):
        for case, floor in enumerate(('near', 'at', 'far')):
            pairs = [OUT, OUT, OUT]
            pairs[case] = ('wait', 1)
            rule = ((5, 9), (tuple(pairs), (OUT, OUT, OUT)))
            found = dict(spots_of(rule))
            self.same([found.get((1, gap, floor), 'none') for gap in range(3)],
                      [None, 3, 'none' if floor == 'at' else None])
            self.assertEqual(len(found), 5 if floor == 'at' else 6)
            self.assertEqual([spot for spot, _ in steady_spots(rule)], [(0, gap, 'near') for gap in range(3)])
            self.compare([rule])

    def test_steady_rows_wait_at_one_integer(self):
        # Behind a near wait 5 does not come in on steady rows, so phase 2 does not come up.
        rule = ((5,), ((('wait', 1), OUT, OUT), (('take', 0), ('take', 2), OUT), (OUT, OUT, OUT)))
        self.assertIn((2, 1, 'near'), dict(spots_of(rule)))
        self.assertNotIn((2, 1, 'near'), dict(steady_spots(rule)))
        self.compare([rule])

    def test_the_order_and_the_kinds(self):
        for rule in bent_rules(60, seed=12):
            for found in (spots_of(rule), steady_spots(rule)):
                spots = [spot for spot, _ in found]
                self.assertEqual(spots, sorted(set(spots)))
                self.assertIsInstance(found, tuple)
        self.same(spots_of(rule=TENS), slow_spots(TENS))
        self.same(steady_spots(rule=CAREFUL), slow_spots(CAREFUL, True))
        self.same([len(spots_of(JUMPY)), len(spots_of(WAITER))], [2, 5])


if __name__ == '__main__':
    unittest.main()
