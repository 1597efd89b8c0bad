"""Things in the order of their keys."""


def end_key(end):
    """A key by which ends are in their order, endless behind every integer."""
    return (1, 0) if end is None else (0, end)


def merged(left, right):
    """Two lists of pairs (key, thing), each ascending by its keys, as one such list."""
    rows = []
    k = 0
    for row in right:
        while k < len(left) and left[k][0] <= row[0]:
            rows.append(left[k])
            k += 1
        rows.append(row)
    return rows + left[k:]


def in_order(rows):
    """A list of pairs (key, thing), ascending by the keys."""
    if len(rows) < 2:
        return rows
    half = len(rows) // 2
    return merged(in_order(rows[:half]), in_order(rows[half:]))
