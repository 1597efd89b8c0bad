"""The spots that come up behind rows, with the greatest rooms there."""

from endclimbs.reaching import reached_from_all

# In the order in which Python sorts the words.
FLOORS = ("at", "far", "near")


def greatest_room(marks, gap, end):
    """The room of the least end that comes up in a gap; in the lowest gap there is no least one."""
    return None if gap in (0, len(marks)) else marks[gap] - end - 1


def listed(rule, best):
    """The pairs (spot, room) of what was reached, ascending by the spots."""
    marks, phases = rule
    pairs = []
    for phase in range(len(phases)):
        for gap in range(len(marks) + 1):
            for floor in FLOORS:
                spot = (phase, gap, floor)
                if spot in best:
                    pairs.append((spot, greatest_room(marks, gap, best[spot][0][1])))
    return tuple(pairs)


def spots_of(rule):
    """The pairs (spot, room) of all spots of states behind rows."""
    return listed(rule, reached_from_all(rule, False))


def steady_spots(rule):
    """The pairs (spot, room) of the states behind steady rows of integers in which the end does not wait."""
    return listed(rule, reached_from_all(rule, True))
