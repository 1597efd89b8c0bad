"""Changed rules: each function returns a new rule and leaves the one that it is passed as it is."""

from endclimbs.errors import require
from endclimbs.kinds import CASES, has_nexts_below, is_case, is_index, is_integer, is_marks, is_move, is_phase


def marks_with(marks, mark):
    """The marks with this one, which is none of them, at its place."""
    below = tuple([old for old in marks if old < mark])
    return below + (mark,) + marks[len(below):]


def with_mark(rule, mark):
    """The rule with this mark, too."""
    marks, phases = rule
    require(is_integer(mark) and mark not in marks, "mark")
    return marks_with(marks, mark), phases


def without_mark(rule, mark):
    """The rule without this one of its marks."""
    marks, phases = rule
    require(is_integer(mark) and mark in marks, "mark")
    return tuple([old for old in marks if old != mark]), phases


def with_marks(rule, marks):
    """The rule with these marks instead of its own."""
    require(is_marks(marks), "marks")
    return marks, rule[1]


def shifted(rule, by):
    """The rule with each mark greater by this integer."""
    require(is_integer(by), "by")
    return tuple([mark + by for mark in rule[0]]), rule[1]


def renumbered(phases, indexes):
    """The phases with each next replaced by what stands at its place in indexes."""
    return tuple([tuple([(move, indexes[later]) for move, later in phase]) for phase in phases])


def with_phase(rule, phase, *, at=None):
    """The rule with this phase, too, which gets the index at, or stands behind all."""
    marks, phases = rule
    many = len(phases)
    require(is_phase(phase) and has_nexts_below(phase, many + 1), "phase")
    require(at is None or is_index(at, many + 1), "at")
    place = many if at is None else at
    others = renumbered(phases, [k + 1 if k >= place else k for k in range(many)])
    return marks, others[:place] + (phase,) + others[place:]


def index_without(index, gone):
    """What a next becomes when the phase with the index gone is taken out."""
    if index == gone:
        return 0
    return index - 1 if index > gone else index


def without_phase(rule, index):
    """The rule without the phase with this index."""
    marks, phases = rule
    many = len(phases)
    require(is_index(index, many) and many > 1, "index")
    others = phases[:index] + phases[index + 1:]
    return marks, renumbered(others, [index_without(k, index) for k in range(many)])


def with_pair(rule, phase, case, move, later):
    """The rule in which the phase with this index has this move and this next for this case."""
    marks, phases = rule
    require(is_index(phase, len(phases)), "phase")
    require(is_case(case), "case")
    require(is_move(move), "move")
    require(is_index(later, len(phases)), "later")
    pairs = [(move, later) if CASES[k] == case else pair for k, pair in enumerate(phases[phase])]
    return marks, phases[:phase] + (tuple(pairs),) + phases[phase + 1:]
