"""Chains: which line a vehicle runs after which, and how many rounds later."""

from depotday.errors import BadChain, UnknownLine
from depotday.loads import Load
from depotday.nets import Net

MOST_WAIT = 9


def check_nexts(day, nexts):
    """Refuse what does not have every line once."""
    lines = len(day.outs)
    for at in range(max(lines, len(nexts))):
        if at >= lines or at >= len(nexts) or not 0 <= nexts[at] < lines or nexts[at] in nexts[:at]:
            raise BadChain("nexts", at)


def check_waits(day, waits):
    """Refuse what does not have a wait for every line."""
    lines = len(day.outs)
    for at in range(max(lines, len(waits))):
        if at >= lines or at >= len(waits) or not 0 <= waits[at] <= MOST_WAIT:
            raise BadChain("waits", at)


def check_stays(chain):
    """Refuse a chain that does not fit."""
    for line, stay in enumerate(chain.stays):
        if stay < 0:
            raise BadChain("stay", line)


def check_line(day, line):
    """Refuse what is not the index of a line."""
    if not 0 <= line < len(day.outs):
        raise UnknownLine(line)


def lines_before(nexts):
    """For each line the one after which it comes."""
    return [nexts.index(line) for line in range(len(nexts))]


class Chain:
    """Which line comes next after each line, and how many rounds before a line the one before it was run."""

    def __init__(self, day, nexts, waits):
        check_nexts(day, nexts)
        check_waits(day, waits)
        length = day.depot.clock.round_length
        self.day = day
        self.nexts = tuple(nexts)
        self.waits = tuple(waits)
        self.befores = tuple(lines_before(nexts))
        self.stays = tuple([wait * length + day.outs[line] - day.outs[before] - day.tardy[before]
                            for line, (before, wait) in enumerate(zip(self.befores, self.waits))])

    @classmethod
    def shortest(cls, day, nexts):
        """The chain with the least waits for which it fits."""
        check_nexts(day, nexts)
        length = day.depot.clock.round_length
        gaps = [day.outs[before] + day.tardy[before] - day.outs[line]
                for line, before in enumerate(lines_before(nexts))]
        return cls(day, nexts, [-(-gap // length) for gap in gaps])

    def __eq__(self, other):
        return (isinstance(other, Chain) and self.day == other.day and self.nexts == other.nexts
                and self.waits == other.waits)

    @property
    def fits(self):
        """True if no stay is negative."""
        return min(self.stays) >= 0

    @property
    def fleet(self):
        """The number of vehicles that the chain needs."""
        return sum(self.waits)

    def rings(self):
        """The rings of lines, each from its least line on, in the order of these."""
        rings = []
        for first in range(len(self.nexts)):
            ring = [first]
            while self.nexts[ring[-1]] != first:
                ring.append(self.nexts[ring[-1]])
            if min(ring) == first:
                rings.append(ring)
        return rings

    def ring_fleets(self):
        """The number of vehicles that each ring needs."""
        return [sum([self.waits[line] for line in ring]) for ring in self.rings()]

    def home_minute(self, line):
        """The minute, counted from the round of the line before, at which the stay before a line begins."""
        before = self.befores[line]
        return self.day.outs[before] + self.day.tardy[before]

    def stay_load(self, line):
        """How many vehicles stand at home before a line in each minute of the round."""
        check_line(self.day, line)
        if self.stays[line] < 0:
            raise BadChain("stay", line)
        return Load.of(self.day.depot.clock.round_length, self.home_minute(line), self.stays[line])

    def home_load(self):
        """How many vehicles stand at home in each minute of the round."""
        load = Load.zero(self.day.depot.clock.round_length)
        for line in range(len(self.stays)):
            load = load + self.stay_load(line)
        return load

    def net(self):
        """The net of the runs and the stays, in which the vehicles of a ring are its rounds."""
        check_stays(self)
        length = self.day.depot.clock.round_length
        runs = [(2 * line, 2 * line + 1, minutes, minutes) for line, minutes in enumerate(self.day.tardy)]
        stays = []
        for line, stay in enumerate(self.stays):
            least = stay - stay % length
            stays.append((2 * self.befores[line] + 1, 2 * line, least, least + length - 1))
        return Net(length, 2 * len(self.nexts), runs + stays)

    def timetable(self):
        """The minutes at which vehicles go out and surely are home, for the events of the net."""
        check_stays(self)
        length = self.day.depot.clock.round_length
        return [minute % length for begin, minutes in zip(self.day.outs, self.day.tardy)
                for minute in (begin, begin + minutes)]
