"""A desk, at which a live analysis is led by rows of text."""

from endclimbs.errors import InvalidRow, InvalidText
from endclimbs.eventreadings import read_event, read_log
from endclimbs.eventtexts import event_line, joined_lines
from endclimbs.lives import Live
from endclimbs.words import range_word

BARS = "bars "
ASKED = ("events", "log", "open", "ranges", "phases", "sheet", "steps")


def first_element(row):
    """The first element of a log, if the lines of a row are those of it and no others; otherwise None."""
    try:
        log = read_log(row.split("\n"))
    except InvalidText:
        return None
    return log[0] if len(log) == 1 else None


def event_of(text):
    """The event of which a text is the line, None if it is that of none."""
    try:
        return read_event(text)
    except InvalidText:
        return None


def or_stroke(text):
    """A text, or the word for nothing."""
    return "-" if text is None or text == "" else text


def ranges_answer(live):
    """The range of each name."""
    return or_stroke(" ".join([f"{name}@{range_word(live[name])}" for name in live]))


def phases_answer(live):
    """The phases of each name."""
    words = [f"{name}@{low}@{high}" for name, (low, high) in zip(live.program_now[0], live.phases_now)]
    return or_stroke(" ".join(words))


def steps_answer(live):
    """The lines of the steps."""
    return joined_lines([event_line(("step", step)) for step in live.program_now[1]])


def asked(live, word):
    """The answer to one of the words by which a live analysis is asked."""
    if word == "events":
        return str(len(live))
    if word == "log":
        return str(live)
    if word == "open":
        return or_stroke(live.open_names())
    if word == "ranges":
        return ranges_answer(live)
    if word == "phases":
        return phases_answer(live)
    return joined_lines(live.sheet()) if word == "sheet" else steps_answer(live)


class Desk:
    """A desk with a live analysis, at first none."""

    def __init__(self):
        self._live = None
        self._started = 0
        self._finished = 0

    def say(self, row):
        """The answer to a row."""
        self._started += 1
        try:
            return self._answer(row)
        finally:
            self._finished = self._started

    def _answer(self, row):
        """The same, which does not count."""
        begun = first_element(row)
        if begun is not None:
            self._live = Live(begun[1], begun[2])
            return "ok"
        if self._live is None:
            raise InvalidRow(row)
        if row in ASKED:
            return asked(self._live, row)
        if row == "undo":
            return event_line(self._live.undo())
        return self._event_answer(row)

    def _event_answer(self, row):
        """The answer to a row that has to have the line of an event."""
        bars = row.startswith(BARS)
        event = event_of(row[len(BARS):] if bars else row)
        if event is None:
            raise InvalidRow(row)
        return or_stroke(self._live.barred(event) if bars else self._live.go(event))

    def counts(self):
        """The numbers of started and of finished calls of say."""
        return self._started, self._finished
