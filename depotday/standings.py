"""Standings: how things are in a minute before its news, and the news that can come then."""

from depotday.errors import NoNews

NO_PAGE = -1
NO_LINE = -1


def last_known(depot, line):
    """The last line of a vehicle as a standing has it: it does not matter without bars."""
    return line if depot.turns.bars else NO_LINE


def at_home(depot, vehicles):
    """The vehicles at home as a standing has them: their order does not matter in a free depot."""
    return tuple(sorted(vehicles)) if depot.free else tuple(vehicles)


def first_standing(day):
    """The standing with which a day begins."""
    depot = day.depot
    lasts = [last_known(depot, depot.clock.index(name)) for name in depot.turns.vehicles]
    return NO_PAGE, 0, at_home(depot, [(depot.cable.full, last, 0) for last in lasts]), ()


def coming_pages(book, standing):
    """The ascending tuple of the pages that news of a standing can have."""
    page, minute, _, _ = standing
    if minute > 0:
        return (page,)
    return book.starts if page == NO_PAGE else book.followers_of(page)


def must_come(day, standing):
    """The indexes of the vehicles that can be no later."""
    lines = day.depot.clock.lines
    return [at for at, (line, due, _) in enumerate(standing[3]) if due == -lines[line].late]


def may_come(standing):
    """The indexes of the vehicles that are home by plan now or were so before."""
    return [at for at, (_, due, _) in enumerate(standing[3]) if due <= 0]


def news_list(day, standing, *, latest=False):
    """The ascending list of all news of a standing, or of the news in which all come at the latest."""
    must = must_come(day, standing)
    rows = [must]
    for at in may_come(standing):
        if at not in must and not latest:
            rows = rows + [row + [at] for row in rows]
    came = sorted([tuple(sorted(row)) for row in rows])
    return [(page, row) for page in coming_pages(day.depot.book, standing) for row in came]


def is_news(day, standing, news):
    """True if this is news of a standing."""
    page, came = news
    may = may_come(standing)
    chosen = list(came) == sorted(set(came)) and all([at in may for at in came])
    complete = all([at in came for at in must_come(day, standing)])
    return page in coming_pages(day.depot.book, standing) and chosen and complete


def queue_with(day, standing, came):
    """The queue once these vehicles that were out have come home."""
    _, _, home, out = standing
    depot = day.depot
    return at_home(depot, list(home) + [(out[at][2], last_known(depot, out[at][0]), 0) for at in came])


def queue_after(day, standing, news):
    """The queue once the vehicles of the news have come home."""
    if not is_news(day, standing, news):
        raise NoNews()
    return queue_with(day, standing, news[1])
