"""Days: a depot with a timetable."""

from depotday.errors import BadMinute, BrokenSpan
from depotday.islands import earliest
from depotday.lateness import late_break
from depotday.timing import minutes_on


def check_sure(clock, times):
    """Refuse what is not a timetable that keeps all runs and makes all ties sure."""
    found = late_break(clock, times)
    if found is not None:
        raise BrokenSpan(len(clock.lines) + found[0])


class Day:
    """A depot with the minutes at which its vehicles go out and come home by plan."""

    def __init__(self, depot, times):
        clock = depot.clock
        check_sure(clock, times)
        net = clock.net()
        self.depot = depot
        self.times = tuple(times)
        self.outs = tuple([times[2 * at] for at in range(len(clock.lines))])
        self.runs = tuple([minutes_on(net, times, at) for at in range(len(clock.lines))])
        self.tardy = tuple([minutes + line.late for minutes, line in zip(self.runs, clock.lines)])

    @classmethod
    def of(cls, depot, rounds):
        """The day with the earliest timetable with these rounds that makes all ties sure."""
        return cls(depot, earliest(depot.clock.sure_net(), rounds))

    def __eq__(self, other):
        return isinstance(other, Day) and self.depot == other.depot and self.times == other.times

    def leaving(self, page, minute):
        """The ascending tuple of the indexes of the lines of a page that go out in a minute."""
        wanted = self.depot.wanted(page)
        if not 0 <= minute < self.depot.clock.round_length:
            raise BadMinute(minute)
        return tuple([line for line in wanted if self.outs[line] == minute])

    def changed(self, **more):
        """The day with the changed depot and the same times."""
        return Day(self.depot.changed(**more), self.times)

    def turned(self, minutes):
        """The day in which everything is later by so many minutes."""
        length = self.depot.clock.round_length
        return Day(self.depot, [(minute + minutes) % length for minute in self.times])
