"""Events and logs, read from lines.

The form of a line is a tuple with the kind of each of its words, in capitals, or the very word that has to stand there.
"""

from endclimbs.errors import InvalidText
from endclimbs.kinds import is_less, is_marks, is_move
from endclimbs.liveevents import is_letters, is_side
from endclimbs.programs import is_letter
from endclimbs.words import end_of_word, is_end_word, is_integer_word, is_number_word

LIVE_FORM = ("live", "LETTERS", "LETTERS", "NUMBER")
EVENT_FORMS = {
    "visit": ("visit", "LETTER"),
    "walk": ("walk", "LETTERS"),
    "back": ("back", "LETTER"),
    "drop": ("drop", "NUMBER"),
}
STEP_FORMS = {
    "is": ("step", "is", "LETTER", "LOW", "HIGH"),
    "plus": ("step", "plus", "LETTER", "LETTER", "INTEGER"),
    "within": ("step", "within", "LETTER", "LETTER", "LOW", "HIGH"),
    "when": ("step", "when", "LETTER", "LETTER", "LOW", "HIGH", "LOW", "HIGH"),
}


def is_high_word(word, low_word):
    """Whether a word writes a high end that is not less than the low end of the word ahead."""
    return is_end_word(word) and (low_word == "-" or not is_less(end_of_word(word), int(low_word)))


def marks_of_word(word):
    """The marks that such a word writes."""
    return () if word == "-" else tuple([int(mark) for mark in word.split(",")])


def is_marks_word(word):
    """Whether a word writes marks."""
    return word == "-" or (all([is_integer_word(mark) for mark in word.split(",")]) and is_marks(marks_of_word(word)))


def is_pair_word(word, many):
    """Whether it writes a move and a next that is less than this."""
    move, _, later = word.partition(":")
    return is_move(move) and is_number_word(later) and int(later) < many


def is_phase_word(word, many):
    """Whether a word writes a phase, whose nexts are less than this."""
    pairs = word.split(",")
    return len(pairs) == 3 and all([is_pair_word(pair, many) for pair in pairs])


def phase_of_word(word):
    """The phase that such a word writes."""
    pairs = [pair.split(":") for pair in word.split(",")]
    return tuple([(move, int(later)) for move, later in pairs])


def can_stand(words, form, k):
    """Whether word k of a line can stand where those ahead of it can."""
    word = words[k]
    kind = form[k]
    if kind == "LETTER":
        return is_letter(word)
    if kind == "LETTERS":
        return word == "-" or (word != "" and is_letters(word))
    if kind == "SIDE":
        return is_side(word)
    if kind == "NUMBER":
        return is_number_word(word)
    if kind == "INTEGER":
        return is_integer_word(word)
    if kind == "LOW":
        return is_end_word(word)
    if kind == "HIGH":
        return is_high_word(word, words[k - 1])
    if kind == "MARKS":
        return is_marks_word(word)
    if kind == "PHASE":
        return is_phase_word(word, form.count("PHASE"))
    return word == kind


def value_of(kind, word):
    """The value that a word of this kind writes."""
    if kind == "LETTERS":
        return "" if word == "-" else word
    if kind in ("NUMBER", "INTEGER"):
        return int(word)
    if kind in ("LOW", "HIGH"):
        return end_of_word(word)
    if kind == "MARKS":
        return marks_of_word(word)
    return phase_of_word(word) if kind == "PHASE" else word


def values_read(words, form, line):
    """The values that the words of the line with this index write, which has to have this form."""
    for k in range(len(words)):
        if k >= len(form) or not can_stand(words, form, k):
            raise InvalidText(line, k)
    if len(words) < len(form):
        raise InvalidText(line, len(words))
    return [value_of(form[k], word) for k, word in enumerate(words)]


def rule_read_behind(words, ahead, line):
    """The values of the words ahead of a rule, which have this form, and the rule that the others write."""
    many = len(words) - len(ahead) - 1
    phases = ("PHASE",) * (many if many > 0 else 1)
    values = values_read(words, ahead + ("MARKS",) + phases, line)
    marks = values[len(ahead)]
    return tuple(values[:len(ahead)]) + ((marks, tuple(values[len(ahead) + 1:])),)


def step_read(words, line):
    """The step that the words of the line with this index write."""
    if words[0] != "step":
        raise InvalidText(line, 0)
    if len(words) == 1 or words[1] not in STEP_FORMS:
        raise InvalidText(line, 1)
    return tuple(values_read(words, STEP_FORMS[words[1]], line)[1:])


def event_read(words, line):
    """The event that the words of the line with this index write."""
    if words[0] == "step":
        return "step", step_read(words, line)
    if words[0] == "rule":
        return rule_read_behind(words, ("rule", "SIDE"), line)
    if words[0] not in EVENT_FORMS:
        raise InvalidText(line, 0)
    return tuple(values_read(words, EVENT_FORMS[words[0]], line))


def words_at(rows, line):
    """The words of the line with this index; InvalidText if it is missing."""
    if line >= len(rows):
        raise InvalidText(len(rows), 0)
    return rows[line]


def beginning_read(rows):
    """The first element of the log that the words of some lines write."""
    _, names, widened, many = values_read(words_at(rows, 0), LIVE_FORM, 0)
    _, low = rule_read_behind(words_at(rows, 1), ("low",), 1)
    _, high = rule_read_behind(words_at(rows, 2), ("high",), 2)
    steps = []
    # As many as the lines tell, which may be far more than there are: the first one that is missing raises.
    for line in range(3, many + 3):
        steps.append(step_read(words_at(rows, line), line))
    return "live", (names, tuple(steps)), (low, high, widened)


def read_event(text):
    """The event that a string writes."""
    return event_read(text.split(" "), 0)


def read_log(lines):
    """The log that a list of lines writes."""
    rows = [line.split(" ") for line in lines]
    begun = beginning_read(rows)
    events = [event_read(rows[line], line) for line in range(len(begun[1][1]) + 3, len(rows))]
    return (begun, *events)
