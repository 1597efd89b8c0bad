"""A live analysis, which is led step by step and can be taken back."""

from endclimbs.analyses import is_widening, open_among
from endclimbs.errors import InvalidEvent, NothingToUndo, require
from endclimbs.eventtexts import events_text
from endclimbs.kinds import is_tuple_of
from endclimbs.liveevents import behind_event, reason_against, standing_first
from endclimbs.programs import incoming_ranges, is_letter, lets_names
from endclimbs.words import range_word


def sheet_line(name, held, phases):
    """A name with its range and its phases, in columns."""
    return f"{name} {range_word(held):<12} {phases[0]:>2} {phases[1]:>2}"


class Live:
    """A live analysis of a program with a widening."""

    MOST = 40
    STEPS = 12

    def __init__(self, program, widening):
        lets_names(program)
        require(is_widening(program, widening), "widening")
        self._begun = ("live", program, widening)
        self._names = program[0]
        self._standing = standing_first(program, widening)
        self._events = []
        # What stood ahead of each of the events.
        self._ahead = []
        self._started = 0
        self._finished = 0

    @property
    def program_now(self):
        """The program with the steps that it has now."""
        return self._standing[0]

    @property
    def widening_now(self):
        """The widening with the rules that it has now."""
        return self._standing[1]

    @property
    def ranges_now(self):
        """The range of each name, None for no range."""
        return self._standing[2]

    @property
    def phases_now(self):
        """The pair of phases of each name."""
        return self._standing[3]

    def _reason(self, standing, event, many):
        """The reason why an event is not possible where this stands, behind so many events, or None."""
        return reason_against(standing, event, many >= self.MOST, self.STEPS)

    def _behind(self, standing, event, many):
        """What stands behind an event, if this stands ahead of it, behind so many events."""
        reason = self._reason(standing, event, many)
        if reason is not None:
            raise InvalidEvent(event, reason)
        return behind_event(standing, event)

    def _apply(self, event):
        """Apply an event, which counts as no operation, and return the answer."""
        before = self._standing[2]
        behind = self._behind(self._standing, event, len(self._events))
        self._ahead.append(self._standing)
        self._events.append(event)
        self._standing = behind
        return "".join([name for k, name in enumerate(self._names) if behind[2][k] != before[k]])

    def _operate(self, event):
        """Apply an event, which counts as an operation, and return the answer."""
        self._started += 1
        try:
            return self._apply(event)
        finally:
            self._finished = self._started

    def visit(self, name):
        """Visit a name."""
        return self._operate(("visit", name))

    def walk(self, names):
        """Visit some names, one after the other."""
        return self._operate(("walk", names))

    def back(self, name):
        """Make what comes in at a name its range."""
        return self._operate(("back", name))

    def add_step(self, step):
        """Put a step behind the other steps."""
        return self._operate(("step", step))

    def drop_step(self, k):
        """Take step k out."""
        return self._operate(("drop", k))

    def set_rule(self, side, rule):
        """Make this the rule of a side."""
        return self._operate(("rule", side, rule))

    def go(self, event):
        """Apply an event."""
        return self._operate(event)

    def __call__(self, event):
        return self._operate(event)

    def __setitem__(self, at, worth):
        self._started += 1
        try:
            require(worth is None or is_tuple_of(worth, 2), "what")
            self._apply(("back", at) if worth is None else ("step", ("is", at) + worth))
        finally:
            self._finished = self._started

    def _is_name(self, thing):
        """Whether any value is a name of the program."""
        return is_letter(thing) and thing in self._names

    def _range_of(self, name):
        """The range of a name of the program, None for no range."""
        # An operator calls nothing that the object holds: so the place is found without the method index.
        return [held for one, held in zip(self._names, self._standing[2]) if one == name][0]

    def __getitem__(self, at):
        require(self._is_name(at), "name")
        return self._range_of(at)

    def __contains__(self, thing):
        return self._is_name(thing) and self._range_of(thing) is not None

    def __iter__(self):
        return iter(self._names)

    def __len__(self):
        return len(self._events)

    def __eq__(self, other):
        return isinstance(other, Live) and self._begun == other._begun and self._events == other._events

    def __str__(self):
        return f"{events_text(self._events)}"

    def log(self):
        """What it began with, and the events."""
        return (self._begun, *self._events)

    def barred(self, event):
        """The reason why any value is not possible as an event now, None if it is possible."""
        return self._reason(self._standing, event, len(self._events))

    def coming(self, name):
        """What comes in at a name now, None for nothing."""
        return incoming_ranges(self._standing[0], self._standing[2], name)

    def open_names(self):
        """The string of the names at which a range comes in now that does not lie within theirs."""
        return open_among(self._standing[0], self._standing[2])

    def sheet(self):
        """A list with a line for each name."""
        _, _, ranges, phases = self._standing
        return [sheet_line(name, ranges[k], phases[k]) for k, name in enumerate(self._names)]

    def tried(self, *events):
        """The ranges behind some events, which are not applied."""
        standing = self._standing
        for k, event in enumerate(events):
            standing = self._behind(standing, event, len(self._events) + k)
        return standing[2]

    def undo(self):
        """Take back the last event, and return it."""
        self._started += 1
        try:
            if len(self._events) == 0:
                raise NothingToUndo(0)
            self._standing = self._ahead.pop()
            return self._events.pop()
        finally:
            self._finished = self._started

    def lead(self, events):
        """Apply events in order, none of which counts as an operation."""
        for event in events:
            self._apply(event)

    def do_all(self, *events, keep=False):
        """Apply events in order, all or none, or as many as can be if keep is True; return how many they are."""
        self._started += 1
        try:
            if not keep:
                # What raises here has changed nothing.
                self.tried(*events)
            self.lead(events)
            return len(events)
        finally:
            self._finished = self._started

    def counts(self):
        """The numbers of started and of finished operations."""
        return self._started, self._finished
