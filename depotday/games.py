"""Games: all standings of a day, and how soon a foe can bring a keeper to news without an answer."""

from depotday.answering import departing, queue_answers, standing_after, staying
from depotday.errors import TooMany, UnknownStanding
from depotday.standings import first_standing, news_list, queue_with


def different_answers(day, queue, lines):
    """Answers of a queue with what they lead to, one of those that lead to the same."""
    found = {}
    for answer in queue_answers(day, queue, lines):
        told = (staying(day, queue, lines, answer), tuple(departing(day, queue, lines, answer[0])))
        if told not in found:
            found[told] = answer
    return [(answer, home, list(departed)) for (home, departed), answer in found.items()]


def moves_of(day, standing, news, known):
    """The pairs of an answer to news and the standing to which it leads, one for each of these standings.

    `known` keeps the answers of the queues: many standings have queues that are alike.
    """
    queue, lines = queue_with(day, standing, news[1]), day.leaving(news[0], standing[1])
    if (queue, lines) not in known:
        known[(queue, lines)] = different_answers(day, queue, lines)
    return [(answer, standing_after(day, standing, news, home, departed))
            for answer, home, departed in known[(queue, lines)]]


def all_moves(day, first, latest, most):
    """For each standing of the game, for each of its news, the moves; all in the order in which they are found."""
    found = {first: {}}
    waiting = [first]
    known = {}
    while waiting:
        standing = waiting.pop()
        for news in news_list(day, standing, latest=latest):
            moves = moves_of(day, standing, news, known)
            found[standing][news] = moves
            for coming in [pair[1] for pair in moves]:
                if coming not in found:
                    found[coming] = {}
                    waiting.append(coming)
            if len(found) > most:
                raise TooMany(most)
    return found


def links(moves):
    """The nodes that lead to each standing, and for each node the number of the standings to which it leads.

    A node is a pair of a standing and its news.
    """
    leading = {standing: [] for standing in moves}
    ways = {}
    for standing, by_news in moves.items():
        for news, pairs in by_news.items():
            ways[(standing, news)] = len(pairs)
            for _, coming in pairs:
                leading[coming].append((standing, news))
    return leading, ways


def ranks_of(moves):
    """The ranks of those standings that are not held."""
    leading, ways = links(moves)
    ranks = {}
    rank = 1
    falling = [standing for standing, news in ways if ways[(standing, news)] == 0]
    while falling:
        newest = list({standing: True for standing in falling if standing not in ranks})
        for standing in newest:
            ranks[standing] = rank
        # A node falls with the last one of the standings to which its answers lead.
        nodes = [node for standing in newest for node in leading[standing]]
        falling = []
        for node in nodes:
            ways[node] -= 1
            if ways[node] == 0:
                falling.append(node[0])
        rank += 1
    return ranks


class Game:
    """All standings to which news and answers lead, with the ranks of those that are not held."""

    def __init__(self, day, *, latest=False, most=2000):
        self.day = day
        self.latest = latest
        self.first = first_standing(day)
        self._moves = all_moves(day, self.first, latest, most)
        self._ranks = ranks_of(self._moves)

    def __len__(self):
        return len(self._moves)

    def __contains__(self, x):
        return x in self._moves

    def __iter__(self):
        return iter(self._moves)

    def standings(self):
        """The list of the standings."""
        return list(self._moves)

    def _check_standing(self, standing):
        if standing not in self._moves:
            raise UnknownStanding()

    def news(self, standing):
        """The ascending list of the news that the game looks at."""
        self._check_standing(standing)
        return list(self._moves[standing])

    def rank(self, standing):
        """The rank of a standing, None if it is held."""
        self._check_standing(standing)
        return self._ranks.get(standing)

    def moves(self, standing, news):
        """Pairs of an answer and a standing, one for each standing to which answers to this news lead."""
        return list(self._moves[standing][news])

    def best_move(self, standing, news):
        """The best answer to news with the standing to which it leads, and before them the rank of this standing.

        An answer that leads to a held standing is best, then one that leads to the greatest rank. Without an answer
        the rank is 0, and the others are None.
        """
        best = (0, None, None)
        for answer, coming in self._moves[standing][news]:
            rank = self._ranks.get(coming)
            if rank is None:
                return None, answer, coming
            if rank > best[0]:
                best = (rank, answer, coming)
        return best
