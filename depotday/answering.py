"""Answers: which vehicles are sent and which are charged, and the standings to which this leads."""

from depotday.errors import NoAnswer
from depotday.queues import passes
from depotday.standings import at_home, queue_after


def bar_indexes(depot):
    """The bars as pairs of indexes of lines."""
    return [(depot.clock.index(first), depot.clock.index(second)) for first, second in depot.turns.bars]


def can_run(day, vehicle, line):
    """True if a vehicle has enough units for a line that is not barred for it."""
    units, last, _ = vehicle
    return units >= day.depot.clock.lines[line].use and not day.depot.is_barred(last, line)


def counts_after(day, queue, lines, sent):
    """How often each vehicle of a queue has been passed over since it came, once these are sent on the lines."""
    if day.depot.free:
        return [0] * len(queue)
    more = passes([last for _, last, _ in queue], list(zip(lines, sent)), bar_indexes(day.depot))
    return [passed + count for (_, _, passed), count in zip(queue, more)]


def is_patient(day, queue, lines, sent):
    """True if nobody is passed over too often when these are sent on the lines."""
    return day.depot.free or max(counts_after(day, queue, lines, sent), default=0) <= day.depot.turns.patience


def is_sent(day, queue, lines, sent):
    """True if these vehicles of a queue can be sent on the lines, in this order."""
    if len(sent) != len(lines) or len(set(sent)) != len(sent) or not all([0 <= at < len(queue) for at in sent]):
        return False
    able = all([can_run(day, queue[at], line) for at, line in zip(sent, lines)])
    return able and is_patient(day, queue, lines, sent)


def all_sent(day, queue, lines):
    """The ascending list of the tuples of vehicles of a queue that can be sent on the lines."""
    rows = [()]
    for line in lines:
        able = [at for at, vehicle in enumerate(queue) if can_run(day, vehicle, line)]
        rows = [row + (at,) for row in rows for at in able if at not in row]
    return [row for row in rows if is_patient(day, queue, lines, row)]


def chargeable(day, queue, sent):
    """The ascending list of the vehicles that stay and are not full."""
    full = day.depot.cable.full
    return [at for at, (units, _, _) in enumerate(queue) if at not in sent and units < full]


def charge_count(day, queue, sent):
    """The number of the vehicles that the cable charges."""
    return min(day.depot.cable.width, len(chargeable(day, queue, sent)))


def all_charged(day, queue, sent):
    """The ascending list of the tuples of vehicles that can be charged."""
    able = chargeable(day, queue, sent)
    rows = [()]
    for _ in range(charge_count(day, queue, sent)):
        rows = [row + (at,) for row in rows for at in able if not row or row[-1] < at]
    return rows


def is_charged(day, queue, sent, charged):
    """True if these vehicles can be charged."""
    able = chargeable(day, queue, sent)
    chosen = list(charged) == sorted(set(charged)) and all([at in able for at in charged])
    return chosen and len(charged) == charge_count(day, queue, sent)


def queue_answers(day, queue, lines):
    """The ascending list of the answers of a queue to lines that go out."""
    return [(sent, charged) for sent in all_sent(day, queue, lines) for charged in all_charged(day, queue, sent)]


def answers(day, standing, news):
    """The ascending list of all answers to news."""
    queue = queue_after(day, standing, news)
    return queue_answers(day, queue, day.leaving(news[0], standing[1]))


def staying(day, queue, lines, answer):
    """The vehicles that are at home behind an answer."""
    sent, charged = answer
    counts = counts_after(day, queue, lines, sent)
    vehicles = [(units + int(at in charged), last, counts[at]) for at, (units, last, _) in enumerate(queue)
                if at not in sent]
    return at_home(day.depot, vehicles)


def departing(day, queue, lines, sent):
    """The vehicles that are sent, as they are out in the next minute."""
    uses = [line.use for line in day.depot.clock.lines]
    return [(line, day.runs[line] - 1, queue[at][0] - uses[line]) for line, at in zip(lines, sent)]


def standing_after(day, standing, news, home, departed):
    """The standing of the next minute, from the vehicles that stay and those that are sent."""
    page, came = news
    _, minute, _, out = standing
    away = [(line, due - 1, units) for at, (line, due, units) in enumerate(out) if at not in came]
    return page, (minute + 1) % day.depot.clock.round_length, home, tuple(sorted(away + departed))


def after(day, standing, news, answer):
    """The standing of the next minute."""
    queue = queue_after(day, standing, news)
    lines = day.leaving(news[0], standing[1])
    sent, charged = answer
    if not is_sent(day, queue, lines, sent) or not is_charged(day, queue, sent, charged):
        raise NoAnswer()
    home, departed = staying(day, queue, lines, answer), departing(day, queue, lines, sent)
    return standing_after(day, standing, news, home, departed)
