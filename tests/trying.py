"""The points [49] to [58] by their words, found by trying all possibilities and without the package's own way."""

import itertools

from depotday.errors import TooMany
from depotday.papers import Plan, decide

ENDLESS = 10 ** 6


def subsets(number):
    """All ascending tuples of different numbers below this one."""
    return [row for size in range(number + 1) for row in itertools.combinations(range(number), size)]


def is_barred(day, last, line):
    names = [one.name for one in day.depot.clock.lines]
    return last != -1 and (names[last], names[line]) in day.depot.turns.bars


def is_proper(day, standing):
    """Point [51]."""
    page, minute, home, out = standing
    depot = day.depot
    lines, patience = depot.clock.lines, depot.turns.patience
    right = 0 <= minute < depot.clock.round_length and (0 <= page < len(depot.book) or (page, minute) == (-1, 0))
    for units, last, passed in home:
        right = right and 0 <= units <= depot.cable.full and 0 <= passed <= (patience or 0)
        right = right and (0 <= last < len(lines) if depot.turns.bars else last == -1)
    for line, due, units in out:
        right = right and 0 <= line < len(lines) and -lines[line].late <= due <= day.runs[line] - 1
        right = right and 0 <= units <= depot.cable.full
    keys = [row[:2] for row in out]
    right = right and list(out) == sorted(out) and len(keys) == len(set(keys)) and len(home) + len(out) <= 5
    return right and (patience is not None or list(home) == sorted(home))


def news_by_trying(day, standing, latest=False):
    """Point [53]."""
    page, minute, _, out = standing
    book = day.depot.book
    if minute > 0:
        pages = [page]
    else:
        pages = book.starts if page == -1 else book.followers_of(page)
    found = []
    for coming in range(len(book)):
        for came in subsets(len(out)):
            kinds = []
            for at, (line, due, _) in enumerate(out):
                must = due == -day.depot.clock.lines[line].late
                may = due <= 0 and not latest or must
                kinds.append(at in came if must else may or at not in came)
            if coming in pages and all(kinds):
                found.append((coming, came))
    return sorted(found)


def queue_by_words(day, standing, news):
    """Point [54]."""
    queue = list(standing[2])
    for at in news[1]:
        line, _, units = standing[3][at]
        queue.append((units, line if day.depot.turns.bars else -1, 0))
    return tuple(sorted(queue)) if day.depot.turns.patience is None else tuple(queue)


def leaving_by_words(day, standing, news):
    names = day.depot.book.lines_of(news[0])
    return [at for at, line in enumerate(day.depot.clock.lines)
            if line.name in names and day.times[2 * at] == standing[1]]


def passed_by_words(day, queue, lines, sent):
    """How often each vehicle has been passed over, sent ones not."""
    counts = [passed for _, _, passed in queue]
    for line, who in zip(lines, sent):
        for at, (_, last, _) in enumerate(queue):
            if at not in sent and at < who and not is_barred(day, last, line):
                counts[at] += 1
    return counts


def may_be_sent(day, queue, lines, sent):
    """The second step of point [49]."""
    patience = day.depot.turns.patience
    for line, at in zip(lines, sent):
        units, last, _ = queue[at]
        if units < day.depot.clock.lines[line].use or is_barred(day, last, line):
            return False
    return patience is None or all(count <= patience for count in passed_by_words(day, queue, lines, sent))


def may_be_charged(day, queue, sent, charged):
    """The third step of point [49]."""
    cable = day.depot.cable
    able = [at for at, (units, _, _) in enumerate(queue) if at not in sent and units < cable.full]
    return set(charged) <= set(able) and (len(charged) == cable.width or
                                          len(able) < cable.width and set(charged) == set(able))


def answers_by_trying(day, standing, news):
    """Point [55]."""
    queue, lines = queue_by_words(day, standing, news), leaving_by_words(day, standing, news)
    return sorted((sent, charged) for sent in itertools.permutations(range(len(queue)), len(lines))
                  if may_be_sent(day, queue, lines, sent)
                  for charged in subsets(len(queue)) if may_be_charged(day, queue, sent, charged))


def after_by_words(day, standing, news, answer):
    """Point [56]."""
    queue, lines = queue_by_words(day, standing, news), leaving_by_words(day, standing, news)
    sent, charged = answer
    free = day.depot.turns.patience is None
    counts = passed_by_words(day, queue, lines, sent)
    home = [(units + (at in charged), last, 0 if free else counts[at]) for at, (units, last, _) in enumerate(queue)
            if at not in sent]
    out = [(line, due - 1, units) for at, (line, due, units) in enumerate(standing[3]) if at not in news[1]]
    for line, at in zip(lines, sent):
        out.append((line, day.runs[line] - 1, queue[at][0] - day.depot.clock.lines[line].use))
    minute = (standing[1] + 1) % day.depot.clock.round_length
    return news[0], minute, tuple(sorted(home)) if free else tuple(home), tuple(sorted(out))


def first_by_words(day):
    """Point [52]."""
    depot = day.depot
    names = [line.name for line in depot.clock.lines]
    home = [(depot.cable.full, names.index(name) if depot.turns.bars else -1, 0) for name in depot.turns.vehicles]
    return -1, 0, tuple(sorted(home)) if depot.turns.patience is None else tuple(home), ()


def tree_by_words(day, latest=False):
    """Point [57]: for each standing, for each of its news, what its answers lead to."""
    tree = {}
    waiting = {first_by_words(day)}
    while waiting:
        standing = waiting.pop()
        tree[standing] = {news: {after_by_words(day, standing, news, answer)
                                 for answer in answers_by_trying(day, standing, news)}
                          for news in news_by_trying(day, standing, latest)}
        waiting |= {coming for comings in tree[standing].values() for coming in comings} - set(tree)
    return tree


def ranks_by_words(tree):
    """Point [58], step by step: whoever has no rank yet and news whose answers all lead to lower ones gets the next."""
    ranks, rank, more = {}, 1, True
    while more:
        lower = set(ranks)
        more = [standing for standing in tree if standing not in lower
                and any(comings <= lower for comings in tree[standing].values())]
        ranks.update((standing, rank) for standing in more)
        rank += 1
    return ranks


def minutes_of(day, latest=False):
    """The minutes or the latest minutes of point [82], None if the game is too great."""
    try:
        paper = decide(day, latest=latest, most=600)
    except TooMany:
        return None
    return paper.minutes if isinstance(paper, Plan) else ENDLESS
