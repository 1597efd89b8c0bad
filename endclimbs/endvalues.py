"""Ends and ranges as objects that never change."""

from endclimbs.errors import InvalidText, NotUsable, require
from endclimbs.kinds import is_end, is_integer, is_less
from endclimbs.words import end_of_word, end_word, is_end_word, range_word


def sum_of_ends(end, other):
    """The sum of two ends: endless if one of both is."""
    return None if end is None or other is None else end + other


def minus(end):
    """The negated integer; None stays None, on whichever side it leaves a range without an end."""
    return None if end is None else -end


def greater_low(low, other):
    """The greater one of two low ends, where None is less than every integer."""
    return low if other is None or (low is not None and low >= other) else other


def lesser_low(low, other):
    """The lesser one of two low ends, where None is less than every integer."""
    return None if low is None or other is None else (low if low <= other else other)


class End:
    """An end as an object."""

    def __init__(self, value):
        require(is_end(value), "value")
        self._value = value

    @property
    def value(self):
        """The integer, or None if it is endless."""
        return self._value

    @staticmethod
    def of(end):
        """The End of an end or of an End."""
        if isinstance(end, End):
            return End(end.value)
        require(is_end(end), "end")
        return End(end)

    @staticmethod
    def parsed(text):
        """The End that a string writes."""
        if not is_end_word(text):
            raise InvalidText(0, 0)
        return End(end_of_word(text))

    def __eq__(self, other):
        return isinstance(other, End) and self._value == other._value

    def __le__(self, other):
        require(isinstance(other, End), "other")
        return not is_less(other.value, self._value)

    def __ge__(self, other):
        require(isinstance(other, End), "other")
        return not is_less(self._value, other.value)

    def __add__(self, other):
        if isinstance(other, End):
            return End(sum_of_ends(self._value, other.value))
        require(is_integer(other), "other")
        return End(sum_of_ends(self._value, other))

    def __neg__(self):
        require(self._value is not None, "value")
        return End(minus(self._value))

    def __bool__(self):
        return self._value is not None

    def __str__(self):
        return f"{end_word(self._value)}"


class Range:
    """The integers that are at least low, or all if it is None, and at most the end high."""

    def __init__(self, low, high):
        require(is_end(low), "low")
        require(is_end(high) and (low is None or not is_less(high, low)), "high")
        self._low = low
        self._high = high

    @property
    def low(self):
        """The least integer, or None without one."""
        return self._low

    @property
    def high(self):
        """The greatest integer, or None without one."""
        return self._high

    @staticmethod
    def parsed(text):
        """The Range that a string writes."""
        low_word, _, high_word = text.partition("..")
        if not is_end_word(low_word) or not is_end_word(high_word):
            raise InvalidText(0, 0)
        low = end_of_word(low_word)
        high = end_of_word(high_word)
        if low is not None and is_less(high, low):
            raise InvalidText(0, 0)
        return Range(low, high)

    def __contains__(self, thing):
        if not is_integer(thing):
            return False
        return (self._low is None or thing >= self._low) and not is_less(self._high, thing)

    def __eq__(self, other):
        return isinstance(other, Range) and self._low == other._low and self._high == other._high

    def __le__(self, other):
        require(isinstance(other, Range), "other")
        return lesser_low(self._low, other.low) == other.low and not is_less(other.high, self._high)

    def __ge__(self, other):
        require(isinstance(other, Range), "other")
        return lesser_low(self._low, other.low) == self._low and not is_less(self._high, other.high)

    def __and__(self, other):
        require(isinstance(other, Range), "other")
        low = greater_low(self._low, other.low)
        high = self._high if is_less(self._high, other.high) else other.high
        if low is not None and is_less(high, low):
            raise NotUsable("other", -1)
        return Range(low, high)

    def __or__(self, other):
        require(isinstance(other, Range), "other")
        high = other.high if is_less(self._high, other.high) else self._high
        return Range(lesser_low(self._low, other.low), high)

    def __add__(self, other):
        if isinstance(other, Range):
            return Range(sum_of_ends(self._low, other.low), sum_of_ends(self._high, other.high))
        require(is_integer(other), "other")
        return Range(sum_of_ends(self._low, other), sum_of_ends(self._high, other))

    def __neg__(self):
        return Range(minus(self._high), minus(self._low))

    def __str__(self):
        return f"{range_word((self._low, self._high))}"
