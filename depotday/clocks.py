"""Clocks: the lines of a round, and ties between their events."""

from depotday.errors import BadClock, LateTie, UnknownName
from depotday.nets import Net

LEAST_ROUND = 2
MOST_ROUND = 12
MOST_LINES = 4
MOST_TIES = 8
MOST_ON_TIE = 99
SIDES = ("out", "home")


def check_round(round_length):
    """Refuse what cannot be the number of minutes of a round."""
    if not LEAST_ROUND <= round_length <= MOST_ROUND:
        raise BadClock("round", 0)


def fits_round(line, round_length):
    """True if a line can be run in rounds of this length."""
    most = min(2 * round_length, line.least + round_length - 1)
    return line.most <= most and line.late <= round_length - 1


def check_lines(round_length, lines):
    """Refuse a wrong number of lines, names that come again and lines that do not fit the round."""
    if not 1 <= len(lines) <= MOST_LINES:
        raise BadClock("lines", 0)
    names = [line.name for line in lines]
    for at, line in enumerate(lines):
        if line.name in names[:at] or not fits_round(line, round_length):
            raise BadClock("line", at)


def is_tie(tie, round_length, names):
    """True if a tuple can be a tie between the lines with these names."""
    if len(tie) != 6:
        return False
    first, side, second, other_side, least, most = tie
    known = first in names and second in names and side in SIDES and other_side in SIDES
    joins = known and (first, side) != (second, other_side)
    return joins and 0 <= least <= most <= min(least + round_length - 1, MOST_ON_TIE)


def check_ties(round_length, lines, ties):
    """Refuse too many ties and wrong ones."""
    if len(ties) > MOST_TIES:
        raise BadClock("ties", 0)
    names = [line.name for line in lines]
    for at, tie in enumerate(ties):
        if not is_tie(tie, round_length, names):
            raise BadClock("tie", at)


class Clock:
    """A round, its lines, and the ties between the times at which their vehicles go out and come home."""

    def __init__(self, round_length, lines, ties=()):
        check_round(round_length)
        check_lines(round_length, lines)
        check_ties(round_length, lines, ties)
        self.round_length = round_length
        self.lines = tuple(lines)
        self.ties = tuple([tuple(tie) for tie in ties])

    def __eq__(self, other):
        return (isinstance(other, Clock) and self.round_length == other.round_length
                and self.lines == other.lines and self.ties == other.ties)

    def index(self, name):
        """The index of the line with this name."""
        names = [line.name for line in self.lines]
        if name not in names:
            raise UnknownName(name)
        return names.index(name)

    def event(self, name, side):
        """The number of the event at which the vehicle of a line goes out or comes home."""
        at = self.index(name)
        if side not in SIDES:
            raise UnknownName(side)
        return 2 * at + SIDES.index(side)

    def tie_events(self, number):
        """The start and the end of a tie."""
        first, side, second, other_side, _, _ = self.ties[number]
        return self.event(first, side), self.event(second, other_side)

    def tie_lates(self, number):
        """The greatest latenesses of the start and of the end of a tie."""
        start, end = self.tie_events(number)
        # Departures have the even numbers, and they are never late.
        lates = [late for line in self.lines for late in (0, line.late)]
        return lates[start], lates[end]

    def _net_with(self, limits):
        """The net in which each tie has these limits."""
        runs = [(2 * at, 2 * at + 1, line.least, line.most) for at, line in enumerate(self.lines)]
        ties = [self.tie_events(number) + pair for number, pair in enumerate(limits)]
        return Net(self.round_length, 2 * len(self.lines), runs + ties)

    def net(self):
        """The net of the runs and the ties."""
        return self._net_with([(tie[4], tie[5]) for tie in self.ties])

    def sure_net(self):
        """The net in which each tie is so narrow that it is kept whatever the latenesses are."""
        limits = []
        for number, tie in enumerate(self.ties):
            late, other_late = self.tie_lates(number)
            if tie[4] + late > tie[5] - other_late:
                raise LateTie(number)
            limits.append((tie[4] + late, tie[5] - other_late))
        return self._net_with(limits)
