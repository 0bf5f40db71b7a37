"""Keeping a ringed day by a plan of one round."""

from depotday.answering import charge_count, chargeable
from depotday.errors import NotRinged
from depotday.ringed import ring_chain
from depotday.standings import queue_after


def check_plan(plan):
    """Refuse a plan that is not one of the chain that the turns force, with the width of the cable."""
    day = plan.chain.day
    if plan.chain != ring_chain(day) or plan.width != day.depot.cable.width:
        raise NotRinged()


def sent_in_turn(queue, lines, coming_lines):
    """For each line that goes out the first vehicle whose line it is, None if some line has none with enough units."""
    sent = []
    for line, use in lines:
        able = [at for at, other in enumerate(coming_lines) if other == line]
        if not able or queue[able[0]][0] < use:
            return None
        sent.append(able[0])
    return tuple(sent)


def minutes_until(day, line, minute):
    """The minutes from a minute of the round to the next one after it in which a line goes out."""
    return (day.outs[line] - minute - 1) % day.depot.clock.round_length + 1


def is_due(plan, minute, line, before):
    """True if the plan gives a unit to a vehicle before which so many others stay for the same line."""
    ahead = minutes_until(plan.chain.day, line, minute) + before * plan.chain.day.depot.clock.round_length
    return plan.chain.stays[line] - ahead in plan.charges[line]


def due_vehicles(plan, minute, sent, coming_lines):
    """The ascending list of those vehicles that stay and are due for a unit."""
    waiting = [at for at in range(len(coming_lines)) if at not in sent]
    due = []
    for at in waiting:
        before = [other for other in waiting if other < at and coming_lines[other] == coming_lines[at]]
        if is_due(plan, minute, coming_lines[at], len(before)):
            due.append(at)
    return due


def keep_round(plan, standing, news):
    """The answer to news by a plan of one round, None if a line has no vehicle or one with too few units."""
    check_plan(plan)
    day, minute = plan.chain.day, standing[1]
    queue = queue_after(day, standing, news)
    coming_lines = [day.depot.lines_after(last)[0] for _, last, _ in queue]
    lines = [(line, day.depot.clock.lines[line].use) for line in day.leaving(news[0], minute)]
    sent = sent_in_turn(queue, lines, coming_lines)
    if sent is None:
        return None
    able = chargeable(day, queue, sent)
    due = due_vehicles(plan, minute, sent, coming_lines)
    charged = [at for at in able if at in due]
    for at in able:
        if at not in due and len(charged) < charge_count(day, queue, sent):
            charged.append(at)
    return sent, tuple(sorted(charged))
