"""Rules and ends, read from texts."""

from endclimbs.errors import InvalidText
from endclimbs.kinds import is_move
from endclimbs.words import end_of_word, is_end_word, is_integer_word, is_number_word

# The word phase, then a move and a next for each of the three cases.
PHASE_WORDS = 7


def marks_read(words):
    """The marks that the words of line 0 write."""
    if words[0] != "marks":
        raise InvalidText(0, 0)
    if len(words) == 1:
        raise InvalidText(0, 1)
    if words[1] == "-":
        if len(words) > 2:
            raise InvalidText(0, 2)
        return ()
    marks = []
    for k in range(1, len(words)):
        if not is_integer_word(words[k]) or (k > 1 and int(words[k]) <= marks[-1]):
            raise InvalidText(0, k)
        marks.append(int(words[k]))
    return tuple(marks)


def is_phase_word(word, place):
    """Whether a word can stand at this place in the line of a phase."""
    if place == 0:
        return word == "phase"
    if place >= PHASE_WORDS:
        return False
    return is_move(word) if place in (1, 3, 5) else is_number_word(word)


def phase_read(words, line):
    """The phase that the words of the line with this index write."""
    for place, word in enumerate(words):
        if not is_phase_word(word, place):
            raise InvalidText(line, place)
    if len(words) < PHASE_WORDS:
        raise InvalidText(line, len(words))
    return tuple([(words[k], int(words[k + 1])) for k in (1, 3, 5)])


def rule_read(text):
    """The pair of marks and phases that a string writes; its nexts may be any numbers."""
    rows = [line.split(" ") for line in text.split("\n")]
    marks = marks_read(rows[0])
    if len(rows) == 1:
        raise InvalidText(1, 0)
    return marks, tuple([phase_read(rows[k], k) for k in range(1, len(rows))])


def ends_read(text):
    """The tuple of ends that a string writes."""
    # Split, the empty string would be one empty word; here it has none.
    words = text.split(" ") if text != "" else []
    for k, word in enumerate(words):
        if not is_end_word(word):
            raise InvalidText(0, k)
    return tuple([end_of_word(word) for word in words])
