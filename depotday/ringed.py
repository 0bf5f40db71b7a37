"""Ringed depots, whose turns force a chain."""

from depotday.chains import Chain
from depotday.cuts import overdrawn
from depotday.errors import NotRinged
from depotday.roundplans import round_plan


def ring_chain(day):
    """The chain that the turns of a ringed depot force."""
    depot = day.depot
    if not depot.ringed:
        raise NotRinged()
    nexts = [depot.lines_after(line)[0] for line in range(len(day.outs))]
    names = [line.name for line in depot.clock.lines]
    before = {after: names[line] for line, after in enumerate(nexts)}
    return Chain(day, nexts, [depot.turns.vehicles.count(before[line]) for line in range(len(nexts))])


def ring_answer(day):
    """The first line without a stay, or the lines that use too much, or else a plan of one round."""
    chain = ring_chain(day)
    for line, stay in enumerate(chain.stays):
        if stay < 0:
            return "stay", line
    lines = overdrawn(chain)
    if lines is not None:
        return "cut", tuple(lines)
    return round_plan(chain)
