"""Events and logs as lines."""

from endclimbs.words import end_word


def value_word(value):
    """The word of an end, or of a string, possibly without letters."""
    return "-" if value == "" else (value if isinstance(value, str) else end_word(value))


def line_of(values):
    """The line of some such values."""
    return " ".join([value_word(value) for value in values])


def marks_word(marks):
    """The word of the marks of a rule."""
    return ",".join([end_word(mark) for mark in marks]) if len(marks) > 0 else "-"


def phase_word(phase):
    """The word of a phase of a rule."""
    return ",".join([f"{move}:{later}" for move, later in phase])


def rule_words(rule):
    """The words of a rule, with spaces between."""
    marks, phases = rule
    return " ".join([marks_word(marks)] + [phase_word(phase) for phase in phases])


def event_line(event):
    """The line of an event by form."""
    if event[0] == "rule":
        return f"rule {event[1]} {rule_words(event[2])}"
    if event[0] == "step":
        return f"step {line_of(event[1])}"
    return line_of(event)


def log_lines(log):
    """The list of the lines of a log."""
    _, (names, steps), (low, high, widened) = log[0]
    lines = [line_of(("live", names, widened, len(steps))), f"low {rule_words(low)}", f"high {rule_words(high)}"]
    lines = lines + [event_line(("step", step)) for step in steps]
    return lines + [event_line(event) for event in log[1:]]


def joined_lines(lines):
    """Some lines with strokes between, or the word for nothing."""
    return " / ".join(lines) if len(lines) > 0 else "-"


def events_text(events):
    """The lines of some events, with strokes between."""
    return joined_lines([event_line(event) for event in events])
