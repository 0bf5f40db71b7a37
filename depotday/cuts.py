"""Cuts: sets of lines that use more than the cable can give them."""

from depotday.chains import check_line, check_stays
from depotday.errors import BadNumber
from depotday.loads import Load


def width_of(chain, width):
    """The width that is meant: that of the depot's cable if none is told."""
    if width is None:
        return chain.day.depot.cable.width
    if width < 0:
        raise BadNumber(width)
    return width


def uses_of(chain):
    """The units that each line uses."""
    return [line.use for line in chain.day.depot.clock.lines]


def spares_of(chain):
    """For each line the most that its vehicle can have left when it goes out."""
    return [chain.day.depot.cable.full - use for use in uses_of(chain)]


def check_set(chain, lines):
    """Refuse a list with an entry that is not the index of a line."""
    for line in lines:
        check_line(chain.day, line)


def need(chain, lines):
    """The units that these lines use in a round."""
    check_stays(chain)
    check_set(chain, lines)
    uses = uses_of(chain)
    return sum([uses[line] for line in sorted(set(lines))])


def give(chain, lines, *, width=None):
    """The most units that the cable and the lines before can give these lines in a round."""
    check_stays(chain)
    width = width_of(chain, width)
    check_set(chain, lines)
    spares = spares_of(chain)
    home = Load.zero(chain.day.depot.clock.round_length)
    brought = 0
    for line in sorted(set(lines)):
        home = home + chain.stay_load(line)
        if chain.befores[line] not in lines:
            brought += spares[chain.befores[line]]
    return abs(home.capped(width)) + brought


def all_sets(number):
    """All ascending lists of numbers below this one, those with few numbers first, in order."""
    rows = [[]]
    for line in range(number):
        rows = rows + [row + [line] for row in rows]
    return [row for _, row in sorted([(len(row), row) for row in rows])]


def overdrawn(chain, *, width=None):
    """The set of lines that is overdrawn most, None if no set is."""
    check_stays(chain)
    width = width_of(chain, width)
    best, most = None, 0
    for lines in all_sets(len(chain.nexts)):
        missing = need(chain, lines) - give(chain, lines, width=width)
        if missing > most:
            best, most = lines, missing
    return best


def least_width(chain):
    """The least width for which no set of lines is overdrawn, None if there is none."""
    # More width than vehicles are ever at home gives nothing more.
    for width in range(max(chain.home_load()) + 1):
        if overdrawn(chain, width=width) is None:
            return width
    return None
