"""[23] Gaps, upper marks, rooms and cases, with [3], [5] and [22]."""

import unittest

from endclimbs.casing import case_of, gap_of, room_of, upper_mark
from endclimbs.errors import NotUsable
from playing import case_by_words
from samples import NO_INTEGERS, ODD, Case

MARKS = ((), (5,), (5, 9), (-3, -2, 0, 4, 10), (0, 1, 2, 3))
NO_MARKS = (None, 0, True, 'x', [], [5], (True,), (5, 5), (9, 5), (None,), ('x',), ((5,),))
BIG = 10 ** 59


class CasingTest(Case):
    def test_gap_upper_mark_and_room(self):
        for marks in MARKS:
            for x in range(-6, 14):
                above = [mark for mark in marks if mark > x]
                upper = min(above) if above else None
                room = len(range(x + 1, upper)) if above else None
                self.same(gap_of(marks, x), len(marks) - len(above))
                self.same(upper_mark(marks, x), upper)
                self.same(room_of(marks, x), room)

    def test_marks_of_any_size(self):
        self.same([gap_of((0, BIG), 7), upper_mark((0, BIG), 7), room_of((0, BIG), 7)], [1, BIG, BIG - 8])
        self.same([room_of((0, BIG), BIG - 1), room_of((0, BIG), BIG), gap_of((-BIG,), -BIG)], [0, None, 1])
        self.same([gap_of(marks=(5,), x=5), upper_mark(marks=(5,), x=4), room_of(marks=(5,), x=4)], [1, 5, 0])

    def test_case(self):
        for marks in MARKS:
            for x in range(-6, 14):
                for y in list(range(-7, 15)) + [None]:
                    self.same(case_of(marks, x, y), case_by_words(marks, x, y))

    def test_case_at_below_and_above_a_mark(self):
        self.same([case_of((5, 9), 4, y) for y in (3, 4, 5, 6, 9, None)], [None, None, 'at', 'far', 'far', 'far'])
        self.same([case_of((5, 9), 5, y) for y in (5, 6, 8, 9, 10)], [None, 'near', 'near', 'at', 'far'])
        self.same([case_of((5, 9), 9, y) for y in (9, 10, BIG, None)], [None, 'near', 'near', 'far'])
        self.same([case_of((), 0, 1), case_of(marks=(), x=0, y=None)], ['near', 'far'])

    def test_values_that_are_none(self):
        for function in (gap_of, upper_mark, room_of):
            for marks in NO_MARKS:
                self.fails(NotUsable, ('marks', -1), function, marks, 3)
                self.fails(NotUsable, ('marks', -1), function, marks, None)
            for x in NO_INTEGERS:
                self.fails(NotUsable, ('x', -1), function, (5,), x)

    def test_values_that_are_none_in_case_of(self):
        for marks in NO_MARKS:
            self.fails(NotUsable, ('marks', -1), case_of, marks, None, True)
        for x in NO_INTEGERS:
            self.fails(NotUsable, ('x', -1), case_of, (5,), x, 'x')
        for y in ODD:
            self.fails(NotUsable, ('y', -1), case_of, (5,), 3, y)


if __name__ == '__main__':
    unittest.main()
