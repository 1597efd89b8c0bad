"""Two rules side by side on the rows of a span."""

from endclimbs.climbing import state_behind
from endclimbs.kinds import is_less
from endclimbs.ordering import end_key, in_order


def first_joint(span):
    """The joint state behind the row of the first integer of the span alone."""
    state = (0, span[0], span[0])
    return state, state


def incoming_jointly(joint, span):
    """The integers of the span that can change a joint state: those that are at least the lesser last of both."""
    first, top = span
    last = joint[0][2]
    other_last = joint[1][2]
    lesser = last if is_less(last, other_last) else other_last
    # Behind rows in the span no last is less than its first integer; in a paper one can be.
    return [] if lesser is None else list(range(first if lesser < first else lesser, top + 1))


def moved_jointly(rule, other, joint, y):
    """The joint state behind y."""
    return state_behind(rule, joint[0], y), state_behind(other, joint[1], y)


def is_above(joint):
    """Whether the first rule is above the second one at a joint state."""
    return is_less(joint[1][1], joint[0][1])


def state_key(state):
    """A key by which states are in the order of their numbers."""
    return state[0], end_key(state[1]), end_key(state[2])


def rows_jointly(rule, other, span):
    """The pairs (joint state, row) behind rows in a span: a shortest row for each joint state, shorter ones ahead."""
    start = first_joint(span)
    found = [(start, span[:1])]
    known = {start: True}
    k = 0
    while k < len(found):
        joint, row = found[k]
        k += 1
        for y in incoming_jointly(joint, span):
            behind = moved_jointly(rule, other, joint, y)
            if behind not in known:
                known[behind] = True
                found.append((behind, row + (y,)))
    return found


def joint_states(rule, other, span):
    """The set of the joint states behind all rows in a span."""
    found = [joint for joint, row in rows_jointly(rule, other, span)]
    rows = in_order([((state_key(joint[0]), state_key(joint[1])), joint) for joint in found])
    return tuple([joint for key, joint in rows])
