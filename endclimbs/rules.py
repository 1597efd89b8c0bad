"""Rules as objects that never change."""

from endclimbs.climbing import ends_of
from endclimbs.errors import require
from endclimbs.kinds import MOVES, is_index, is_move, is_number, is_phase
from endclimbs.rulechanges import with_phase
from endclimbs.rulechecker import lets_marks, lets_rule
from endclimbs.rulereadings import rule_read
from endclimbs.ruletexts import rule_text


def require_moves(near, at, far):
    """Raise NotUsable for the first one of the three that is no move."""
    require(is_move(near), "near")
    require(is_move(at), "at")
    require(is_move(far), "far")


class Rule:
    """A rule as an object."""

    def __init__(self, marks, *phases):
        lets_rule((marks, phases))
        self._marks = marks
        self._phases = phases

    @property
    def marks(self):
        """The marks."""
        return self._marks

    @property
    def phases(self):
        """The tuple of the phases."""
        return self._phases

    def form(self):
        """The pair of the marks and the phases."""
        return self._marks, self._phases

    @staticmethod
    def of(thing):
        """The Rule with this form."""
        lets_rule(thing)
        marks, phases = thing
        return Rule(marks, *phases)

    @staticmethod
    def parsed(text):
        """The Rule that a string writes."""
        marks, phases = rule_read(text)
        return Rule(marks, *phases)

    @staticmethod
    def moves():
        """The tuple of the four moves."""
        return MOVES

    def __call__(self, row):
        form = self.form()
        return tuple(ends_of(form, row))

    def __getitem__(self, at):
        require(is_index(at, len(self._phases)), "index")
        return self._phases[at]

    def __contains__(self, thing):
        # By == alone, a phase with True in place of 1 would be found.
        return is_phase(thing) and thing in self._phases

    def __len__(self):
        return len(self._phases)

    def __iter__(self):
        return iter(self._phases)

    def __eq__(self, other):
        return isinstance(other, Rule) and self._marks == other._marks and self._phases == other._phases

    def __add__(self, other):
        marks, phases = with_phase(self.form(), other)
        return Rule(marks, *phases)

    def __str__(self):
        return f"{rule_text(self.form())}"


class Plain(Rule):
    """A rule of one phase, which has itself as all nexts."""

    def __init__(self, marks, near, at, far):
        lets_marks(marks)
        require_moves(near, at, far)
        Rule.__init__(self, marks, ((near, 0), (at, 0), (far, 0)))


class Delayed(Rule):
    """A rule of one phase behind count phases that take whatever comes in."""

    def __init__(self, marks, count, near, at, far):
        lets_marks(marks)
        require(is_number(count), "count")
        require_moves(near, at, far)
        phases = [(("take", k + 1),) * 3 for k in range(count)]
        phases.append(((near, count), (at, count), (far, count)))
        Rule.__init__(self, marks, *phases)
        self._delay = count

    @property
    def delay(self):
        """How many phases stand ahead of the last one."""
        return self._delay
