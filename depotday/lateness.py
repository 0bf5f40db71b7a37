"""Lateness: which ties are kept however late the vehicles come home."""

from depotday.errors import BrokenSpan, LateTie
from depotday.timing import broken, minutes_on


def check_runs(clock, times):
    """Refuse what is not a timetable of the clock that keeps its runs."""
    missed = broken(clock.net(), times)
    if missed and missed[0] < len(clock.lines):
        raise BrokenSpan(missed[0])


def minutes_on_tie(clock, times, number):
    """The minutes that pass on a tie by plan."""
    return minutes_on(clock.net(), times, len(clock.lines) + number)


def tie_break(clock, times, number):
    """The least pair of latenesses for which a tie does not hold, None if it is sure."""
    least, most = clock.ties[number][4:]
    minutes = minutes_on_tie(clock, times, number)
    late, other_late = clock.tie_lates(number)
    for x in range(late + 1):
        for y in range(other_late + 1):
            if not least <= minutes - x + y <= most:
                return x, y
    return None


def late_break(clock, times):
    """The first tie that is not sure, with the least latenesses that break it, None if all are sure."""
    check_runs(clock, times)
    for number in range(len(clock.ties)):
        pair = tie_break(clock, times, number)
        if pair is not None:
            return number, pair[0], pair[1]
    return None


def tie_slacks(clock, times, number):
    """By how much the latenesses of a sure tie can grow, one number for each end that can be late."""
    _, side, _, other_side, least, most = clock.ties[number]
    minutes = minutes_on_tie(clock, times, number)
    late, other_late = clock.tie_lates(number)
    slacks = [minutes - late - least] if side == "home" else []
    return slacks + [most - minutes - other_late] if other_side == "home" else slacks


def slack(clock, times):
    """The greatest number by which all vehicles can come home later so that all ties stay sure."""
    found = late_break(clock, times)
    if found is not None:
        raise LateTie(found[0])
    slacks = [number for at in range(len(clock.ties)) for number in tie_slacks(clock, times, at)]
    return min(slacks) if slacks else None
