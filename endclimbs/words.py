"""Words of texts: how integers, ends and ranges are written, and which words write some."""

DIGITS = 60


def end_word(end):
    """The word that writes an end."""
    return "-" if end is None else f"{end}"


def range_word(held):
    """The word that writes a range, a pair of its ends, or none if it is None."""
    return "none" if held is None else f"{end_word(held[0])}..{end_word(held[1])}"


def is_number_word(word):
    """Whether a string writes a number."""
    if not word.isascii() or not word.isdecimal() or len(word) > DIGITS:
        return False
    return word == "0" or not word.startswith("0")


def is_integer_word(word):
    """Whether a string writes an integer."""
    if word.startswith("-"):
        return word != "-0" and is_number_word(word[1:])
    return is_number_word(word)


def is_end_word(word):
    """Whether a string writes an end."""
    return word == "-" or is_integer_word(word)


def end_of_word(word):
    """The end that such a word writes."""
    return None if word == "-" else int(word)
