"""Steps, paths and rings of a net."""

from depotday.errors import BadPath
from depotday.timing import check_kept, minutes_on


def step_ends(net, step):
    """The events at which a step begins and ends, None if the net has no such step."""
    number, direction = step
    if not 0 <= number < len(net.spans) or direction not in (1, -1):
        return None
    start, end, _, _ = net.spans[number]
    return (start, end) if direction == 1 else (end, start)


def check_path(net, path):
    """Refuse a list that is not a path."""
    event = None
    for place, step in enumerate(path):
        ends = step_ends(net, step)
        if ends is None or (place > 0 and ends[0] != event):
            raise BadPath(place)
        event = ends[1]


def path_ends(net, path):
    """The events at which a path begins and ends, None for the empty path."""
    check_path(net, path)
    if not path:
        return None
    return step_ends(net, path[0])[0], step_ends(net, path[-1])[1]


def check_ring(net, ring):
    """Refuse a list that is not a ring."""
    ends = path_ends(net, ring)
    if ends is None or ends[0] != ends[1]:
        raise BadPath(len(ring))


def is_ring(net, path):
    """True if the list is a ring of the net."""
    try:
        check_ring(net, path)
    except BadPath:
        return False
    return True


def sum_of_minutes(net, times, path):
    """The minutes of the forward steps minus those of the backward steps."""
    return sum([direction * minutes_on(net, times, number) for number, direction in path])


def path_minutes(net, times, path):
    """The minutes that pass along a path by a timetable that keeps the net."""
    check_kept(net, times)
    check_path(net, path)
    return sum_of_minutes(net, times, path)


def ring_rounds(net, times, ring):
    """The rounds that pass along a ring by a timetable that keeps the net."""
    check_kept(net, times)
    check_ring(net, ring)
    return sum_of_minutes(net, times, ring) // net.round_length
