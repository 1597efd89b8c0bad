"""What lies in a span."""


def pairs_of(first, incomings):
    """The pairs of a step program: what comes in ahead of the integer first, at it, and at each one behind it."""
    pairs = [(None, incomings[0])]
    for k in range(1, len(incomings)):
        if incomings[k] != incomings[k - 1]:
            pairs.append((first + k - 1, incomings[k]))
    return tuple(pairs)


def programs_in(span):
    """The step programs that lie in a span, one of those on which the same comes in at each end."""
    first, top = span
    rows = [()]
    # Ahead of the span, and at each integer of it, something can come in that is not less than at lesser ends.
    for _ in range(top - first + 2):
        rows = [row + (d,) for row in rows for d in range(row[-1] if row else first, top + 1)]
    return [(pairs_of(first, row), 0) for row in rows]
