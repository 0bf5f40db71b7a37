"""Turns: which vehicles there are, how often one may be passed over, and what it must not run."""

from depotday.errors import BadTurns
from depotday.names import is_name

MOST_PATIENCE = 4
MOST_VEHICLES = 5


def check_patience(patience):
    """Refuse what cannot be a patience; None is one without end."""
    if patience is not None and not 0 <= patience <= MOST_PATIENCE:
        raise BadTurns("patience", 0)


def check_vehicles(vehicles):
    """Refuse a wrong number of vehicles, and what is not a name."""
    if not 1 <= len(vehicles) <= MOST_VEHICLES:
        raise BadTurns("vehicles", 0)
    for at, name in enumerate(vehicles):
        if not is_name(name):
            raise BadTurns("vehicle", at)


def check_bars(bars):
    """Refuse bars that are not different pairs of names."""
    for at, bar in enumerate(bars):
        if len(bar) != 2 or not all([is_name(name) for name in bar]) or bar in bars[:at]:
            raise BadTurns("bar", at)


class Turns:
    """The patience of the vehicles, the lines that they ran last, and the bars."""

    def __init__(self, patience, vehicles, bars=()):
        check_patience(patience)
        check_vehicles(vehicles)
        check_bars(bars)
        self.patience = patience
        self.vehicles = tuple(vehicles)
        self.bars = tuple([tuple(bar) for bar in bars])

    def __eq__(self, other):
        return (isinstance(other, Turns) and self.patience == other.patience
                and self.vehicles == other.vehicles and self.bars == other.bars)
