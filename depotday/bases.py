"""Bases: tree spans, closing spans, and the base rings that they make."""

from depotday.errors import UnknownEvent
from depotday.paths import check_ring, step_ends, sum_of_minutes
from depotday.timing import check_kept


def tree_path(net, tree, first, second):
    """The path along these spans from one event to another, None if there is none.

    The spans make no ring, so there is one path at most that comes to no event twice.
    """
    steps = [(number, direction) for number in tree for direction in (1, -1)]
    ways = {first: []}
    waiting = [first]
    while waiting:
        event = waiting.pop()
        for step in steps:
            begin, end = step_ends(net, step)
            if begin == event and end not in ways:
                ways[end] = ways[event] + [step]
                waiting.append(end)
    return ways.get(second)


class Base:
    """The tree spans and the closing spans of a net, in the order of their numbers."""

    def __init__(self, net):
        tree, closing = [], []
        for number, span in enumerate(net.spans):
            joined = tree_path(net, tree, span[0], span[1]) is not None
            if joined:
                closing.append(number)
            else:
                tree.append(number)
        self._net = net
        self.tree = tuple(tree)
        self.closing = tuple(closing)

    def __len__(self):
        return len(self.closing)

    def path(self, first, second):
        """The path along tree spans from one event to another, None if no path leads there."""
        for event in (first, second):
            if not 0 <= event < self._net.events:
                raise UnknownEvent(event)
        return tree_path(self._net, self.tree, first, second)

    def rings(self):
        """The base rings, in the order of their closing spans."""
        rings = []
        for number in self.closing:
            start, end, _, _ = self._net.spans[number]
            rings.append([(number, 1)] + self.path(end, start))
        return rings


def rounds(net, times):
    """The rounds of a timetable that keeps the net, one number for each base ring."""
    check_kept(net, times)
    return [sum_of_minutes(net, times, ring) // net.round_length for ring in Base(net).rings()]


def parts(net, ring):
    """How often a ring passes each closing span forward, minus how often backward."""
    check_ring(net, ring)
    return [sum([direction for number, direction in ring if number == closing]) for closing in Base(net).closing]
