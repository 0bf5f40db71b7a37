"""Papers: a table of answers with which a keeper goes on for ever, or a plan of comings that breaks every keeper."""

from depotday.errors import NoNews, UnknownStanding
from depotday.games import Game
from depotday.standings import first_standing


def held_answers(game):
    """For each standing to which they lead, one answer to each of its news that leads to a held standing."""
    rows = {}
    waiting = [game.first]
    while waiting:
        standing = waiting.pop()
        if standing not in rows:
            best = {news: game.best_move(standing, news) for news in game.news(standing)}
            rows[standing] = {news: answer for news, (_, answer, _) in best.items()}
            waiting.extend([coming for _, _, coming in best.values()])
    return rows


def breaking_news(game, standing):
    """The first news of a standing with a rank to which every answer leads to a lower rank."""
    ranks = [(news, game.best_move(standing, news)[0]) for news in game.news(standing)]
    return [news for news, rank in ranks if rank is not None and rank < game.rank(standing)][0]


def planned_news(game):
    """For each standing to which it and all answers lead, the breaking news."""
    rows = {}
    waiting = [game.first]
    while waiting:
        standing = waiting.pop()
        if standing not in rows:
            rows[standing] = breaking_news(game, standing)
            waiting.extend([coming for _, coming in game.moves(standing, rows[standing])])
    return rows


def comings(latest):
    """Which comings a paper is about."""
    return "latest comings" if latest else "all comings"


class Paper:
    """What is decided of a day, with the standings of which it tells."""

    def __init__(self, day, latest):
        self.day = day
        self.latest = latest
        self.first = first_standing(day)
        self._rows = {}

    def __len__(self):
        return len(self._rows)

    def __contains__(self, x):
        return x in self._rows

    def standings(self):
        """The list of the standings."""
        return list(self._rows)

    def _row_of(self, standing):
        if standing not in self._rows:
            raise UnknownStanding()
        return self._rows[standing]

    def told(self):
        """Which comings the paper is about."""
        return comings(self.latest)


class Table(Paper):
    """An answer to all news of each standing to which these answers lead."""

    def __init__(self, game):
        Paper.__init__(self, game.day, game.latest)
        self._rows = held_answers(game)

    def answer(self, standing, news):
        """The answer to news of a standing."""
        row = self._row_of(standing)
        if news not in row:
            raise NoNews()
        return row[news]

    def told(self):
        """Which comings the table is about, and of how many standings it tells."""
        return f"{comings(self.latest)}: table of {len(self._rows)} standings"


class Plan(Paper):
    """News of each standing to which it leads, with which every keeper is broken."""

    def __init__(self, game):
        Paper.__init__(self, game.day, game.latest)
        self.minutes = game.rank(game.first)
        self._rows = planned_news(game)
        self._ranks = {standing: game.rank(standing) for standing in self._rows}

    def news(self, standing):
        """The news that the plan chooses at a standing."""
        return self._row_of(standing)

    def rank(self, standing):
        """The rank of a standing in the game."""
        self._row_of(standing)
        return self._ranks[standing]

    def told(self):
        """Which comings the plan is about, and within how many minutes a keeper is broken."""
        return f"{comings(self.latest)}: broken within {self.minutes} minutes"


def decide(day, *, latest=False, most=2000):
    """A table if a keeper can go on for ever, otherwise a plan."""
    game = Game(day, latest=latest, most=most)
    return Table(game) if game.rank(game.first) is None else Plan(game)
