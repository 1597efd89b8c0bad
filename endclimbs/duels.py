"""Two rules side by side as an object that never changes."""

from endclimbs.alikeness import parting_row
from endclimbs.climbing import ends_of, state_of
from endclimbs.kinds import is_row
from endclimbs.rulechecker import lets_rule


class Duel:
    """Two rules, and whether they have the same ends on all rows."""

    def __init__(self, rule, other):
        lets_rule(rule)
        lets_rule(other)
        self._rule = rule
        self._other = other
        self._parting = parting_row(rule, other)

    @property
    def likeness(self):
        """Whether the rules have the same ends on all rows."""
        return self._parting is None

    @property
    def parting(self):
        """A shortest row behind which the ends are unlike, or None."""
        return self._parting

    def __call__(self, row):
        ends = tuple(ends_of(self._rule, row))
        return ends, tuple(ends_of(self._other, row))

    def turned(self):
        """The Duel of the same rules the other way round."""
        return Duel(self._other, self._rule)

    def __eq__(self, other):
        return isinstance(other, Duel) and self._rule == other._rule and self._other == other._other

    def __contains__(self, thing):
        return is_row(thing) and state_of(self._rule, thing)[1] != state_of(self._other, thing)[1]
