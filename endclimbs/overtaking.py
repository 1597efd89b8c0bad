"""Whether a rule is ever above another one on the rows of a span, and papers of it."""

from endclimbs.joint import is_above, joint_states, rows_jointly


def above_row(rule, other, span):
    """A shortest row in a span on which rule is above other, None if there is none."""
    for joint, row in rows_jointly(rule, other, span):
        if is_above(joint):
            return row
    return None


def never_above(rule, other, span):
    """Whether rule is above other on no row that lies in a span."""
    return above_row(rule, other, span) is None


def above_paper(rule, other, span):
    """A paper of whether rule is ever above other on the rows of a span."""
    row = above_row(rule, other, span)
    return ("never", joint_states(rule, other, span)) if row is None else ("above", row)
