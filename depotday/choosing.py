"""Choosing times for the departures of a depot, so that its day can be kept."""

from depotday.days import Day
from depotday.islands import islands
from depotday.papers import Plan, decide


class Choice:
    """The rounds whose day has a table, if there are any, and the rounds that were tried before."""

    def __init__(self, rounds, day, table, tried):
        self.rounds = rounds
        self.day = day
        self.table = table
        self.tried = tried


def choose(depot, *, latest=False, most=2000):
    """The first rounds of a depot whose earliest timetable makes a day with a table."""
    tried = []
    for rounds in islands(depot.clock.sure_net()):
        day = Day.of(depot, rounds)
        paper = decide(day, latest=latest, most=most)
        if not isinstance(paper, Plan):
            return Choice(rounds, day, paper, tried)
        tried.append((rounds, paper))
    return Choice(None, None, None, tried)
