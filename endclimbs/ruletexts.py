"""Rules and ends as texts."""

from endclimbs.errors import require
from endclimbs.kinds import is_ends, is_rule_form
from endclimbs.words import end_word


def marks_line(marks):
    """The line of a text that writes the marks of a rule."""
    if len(marks) == 0:
        return "marks -"
    words = " ".join([end_word(mark) for mark in marks])
    return f"marks {words}"


def phase_line(phase):
    """The line of a text that writes a phase of a rule."""
    words = " ".join([f"{move} {later}" for move, later in phase])
    return f"phase {words}"


def rule_text(rule):
    """The text that writes a rule, whose nexts may be any numbers."""
    require(is_rule_form(rule), "rule")
    marks, phases = rule
    lines = [phase_line(phase) for phase in phases]
    return "\n".join([marks_line(marks), *lines])


def ends_text(ends):
    """The words of a tuple of ends."""
    require(is_ends(ends), "ends")
    return " ".join([end_word(end) for end in ends])
