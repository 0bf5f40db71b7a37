"""Lines: how long their runs take, what these use up, and how late they come home."""

from depotday.errors import BadRun
from depotday.names import is_name

MOST_MINUTES = 24
MOST_USE = 6
MOST_LATE = 3


class Line:
    """A line on which vehicles run."""

    def __init__(self, name, least, most, use, late):
        if not is_name(name):
            raise BadRun("name")
        if not 1 <= least <= MOST_MINUTES:
            raise BadRun("least")
        if not least <= most <= MOST_MINUTES:
            raise BadRun("most")
        if not 0 <= use <= MOST_USE:
            raise BadRun("use")
        if not 0 <= late <= MOST_LATE:
            raise BadRun("late")
        self.name = name
        self.least = least
        self.most = most
        self.use = use
        self.late = late

    def __eq__(self, other):
        return (isinstance(other, Line) and self.name == other.name and self.least == other.least
                and self.most == other.most and self.use == other.use and self.late == other.late)

    def __str__(self):
        return f"line {self.name} {self.least} {self.most} use {self.use} late {self.late}"
