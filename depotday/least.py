"""Least cables, patience and vehicles with which a day can be kept, and how late its vehicles may come home."""

from depotday.cables import MOST_WIDTH
from depotday.errors import BadClock, BadRun, BrokenSpan, UnknownName
from depotday.papers import Plan, decide
from depotday.turns import MOST_PATIENCE


class Least:
    """A number with a table, if there is one, and the plans for the numbers that were tried besides."""

    def __init__(self, part, number, table, plans):
        self.part = part
        self.number = number
        self.table = table
        self.plans = plans


def numbers_of(day, part):
    """The least and the greatest number to be tried for a part."""
    limits = {"width": (0, MOST_WIDTH), "patience": (0, MOST_PATIENCE), "vehicles": (1, len(day.depot.turns.vehicles))}
    if part not in limits:
        raise UnknownName(part)
    return limits[part]


def least(day, part, *, latest=False, most=2000):
    """The least number for a part of a depot with which a day has a table."""
    low, high = numbers_of(day, part)
    plans = []
    for number in range(low, high + 1):
        more = {part: number}
        paper = decide(day.changed(**more), latest=latest, most=most)
        if not isinstance(paper, Plan):
            return Least(part, number, paper, plans)
        plans.append(paper)
    return Least(part, None, None, plans)


def later_day(day, late):
    """The day with a greater lateness of all lines, None if there is no such day."""
    try:
        return day.changed(late=late)
    except (BadRun, BadClock, BrokenSpan):
        return None


def most_late(day, *, latest=False, most=2000):
    """The greatest number by which all lines can be later so that the day has a table."""
    late, table = 0, None
    later = later_day(day, late)
    while later is not None:
        paper = decide(later, latest=latest, most=most)
        if isinstance(paper, Plan):
            return Least("late", None if table is None else late - 1, table, [paper])
        late, table = late + 1, paper
        later = later_day(day, late)
    return Least("late", late - 1, table, [])
