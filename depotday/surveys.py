"""Surveys: how far a rule goes by itself, and against a plan."""

from depotday.answering import after
from depotday.errors import TooMany
from depotday.standings import first_standing, news_list


def row_to(befores, standing, news):
    """The news that lead from the first standing to this one, and then this news."""
    row = [news]
    while befores[standing] is not None:
        standing, earlier = befores[standing]
        row.append(earlier)
    return row[::-1]


class Survey:
    """All standings to which all news and the answers of a rule lead."""

    def __init__(self, day, rule, *, latest=False, most=2000):
        self.day = day
        self.rule = rule
        self.latest = latest
        first = first_standing(day)
        # For each standing the one before it and the news between them, on the least of the shortest rows to it.
        self._befores = {first: None}
        self._row = None
        self._look(first, most)

    def _look(self, first, most):
        """Find the standings in the order of the rows to them, short ones first and then the least."""
        order = [first]
        done = 0
        while done < len(order):
            standing = order[done]
            done += 1
            order.extend(self._steps(standing))
            if len(order) > most:
                raise TooMany(most)

    def _steps(self, standing):
        """The standings that are found behind this one; the first news without an answer is kept."""
        found = []
        rule = self.rule
        for news in news_list(self.day, standing, latest=self.latest):
            answer = rule(self.day, standing, news)
            if answer is not None:
                coming = after(self.day, standing, news, answer)
                if coming not in self._befores:
                    self._befores[coming] = (standing, news)
                    found.append(coming)
            elif self._row is None:
                self._row = row_to(self._befores, standing, news)
        return found

    def __len__(self):
        return len(self._befores)

    def __contains__(self, x):
        return x in self._befores

    @property
    def holds(self):
        """True if the rule answers all news."""
        return self._row is None

    def row(self):
        """The least of the shortest rows of news of which the rule does not answer the last; None if there is none."""
        return None if self._row is None else list(self._row)

    def standings(self):
        """The list of the standings."""
        return list(self._befores)


def beat(plan, rule):
    """The news of a plan against a rule, up to the first that the rule does not answer."""
    standing = plan.first
    row = []
    while True:
        news = plan.news(standing)
        row.append(news)
        answer = rule(plan.day, standing, news)
        if answer is None:
            return row
        standing = after(plan.day, standing, news, answer)
