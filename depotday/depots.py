"""Depots: a clock, a cable, turns and a book that fit together."""

from depotday.cables import Cable
from depotday.clocks import Clock
from depotday.errors import BadDepot, UnknownLine, UnknownName
from depotday.lines import Line
from depotday.turns import Turns

CHANGES = ("width", "full", "patience", "vehicles", "late")


def check_uses(lines, full):
    """Refuse a line that uses more than a full vehicle has."""
    for at, line in enumerate(lines):
        if line.use > full:
            raise BadDepot("use", at)


def check_known(part, rows, lines):
    """Refuse the first row with a name that is not that of a line; `part` tells what the rows are."""
    names = [line.name for line in lines]
    for at, row in enumerate(rows):
        if not all([name in names for name in row]):
            raise BadDepot(part, at)


def changed_lines(clock, more):
    """The lines of a clock, made anew with a greater lateness."""
    late = more.get("late", 0)
    return [Line(line.name, line.least, line.most, line.use, line.late + late) for line in clock.lines]


def changed_cable(cable, more):
    """A cable, made anew with other numbers."""
    return Cable(more.get("width", cable.width), more.get("full", cable.full))


def changed_turns(turns, more):
    """Turns, made anew with another patience or fewer vehicles."""
    number = more.get("vehicles", len(turns.vehicles))
    # Turns refuse to be without vehicles, just where a wrong number is to be refused.
    vehicles = turns.vehicles[:number] if 1 <= number <= len(turns.vehicles) else ()
    return Turns(more.get("patience", turns.patience), vehicles, turns.bars)


class Depot:
    """Vehicles that run the lines of a clock, at one cable, in their turns, as a book wants it."""

    def __init__(self, clock, cable, turns, book):
        check_uses(clock.lines, cable.full)
        check_known("vehicle", [(name,) for name in turns.vehicles], clock.lines)
        check_known("bar", turns.bars, clock.lines)
        check_known("page", [book.lines_of(page) for page in range(len(book))], clock.lines)
        self.clock = clock
        self.cable = cable
        self.turns = turns
        self.book = book

    def __eq__(self, other):
        return (isinstance(other, Depot) and self.clock == other.clock and self.cable == other.cable
                and self.turns == other.turns and self.book == other.book)

    def wanted(self, page):
        """The ascending tuple of the indexes of the lines of a page."""
        names = self.book.lines_of(page)
        return tuple([at for at, line in enumerate(self.clock.lines) if line.name in names])

    def is_barred(self, last, line):
        """True if a vehicle that ran the one line last must not run the other next; nothing is barred after -1."""
        if not -1 <= last < len(self.clock.lines):
            raise UnknownLine(last)
        if not 0 <= line < len(self.clock.lines):
            raise UnknownLine(line)
        return last >= 0 and (self.clock.lines[last].name, self.clock.lines[line].name) in self.turns.bars

    def lines_after(self, last):
        """The ascending list of the lines that are not barred after a line."""
        return [line for line in range(len(self.clock.lines)) if not self.is_barred(last, line)]

    @property
    def free(self):
        """True if vehicles may be passed over without end."""
        return self.turns.patience is None

    @property
    def plain(self):
        """True if all lines are run in every round, by a book of one page."""
        return len(self.book) == 1 and len(self.wanted(0)) == len(self.clock.lines)

    @property
    def ringed(self):
        """True if the turns force which line a vehicle runs after which, and which vehicle is sent."""
        after = [self.lines_after(last) for last in range(len(self.clock.lines))]
        forced = sorted([line for row in after if len(row) == 1 for line in row])
        return self.plain and self.turns.patience == 0 and forced == list(range(len(after)))

    def changed(self, **more):
        """The depot with another width, full or patience, fewer vehicles, or a greater lateness."""
        for name in more:
            if name not in CHANGES:
                raise UnknownName(name)
        lines = changed_lines(self.clock, more)
        clock = Clock(self.clock.round_length, lines, self.clock.ties)
        cable = changed_cable(self.cable, more)
        return Depot(clock, cable, changed_turns(self.turns, more), self.book)
