"""Nets: events that come once in each round, and spans between them."""

from depotday.errors import BadNet, UnknownSpan

LEAST_ROUND = 2
MOST_ROUND = 60
MOST_EVENTS = 12
MOST_SPANS = 24
MOST_ON_SPAN = 999


def is_span(span, round_length, events):
    """True if a tuple can be a span of a net with this round and this number of events."""
    if len(span) != 4:
        return False
    start, end, least, most = span
    joins = 0 <= start < events and 0 <= end < events and start != end
    return joins and 0 <= least <= most <= min(least + round_length - 1, MOST_ON_SPAN)


def check_net(round_length, events, spans):
    """Refuse what cannot be a net."""
    if not LEAST_ROUND <= round_length <= MOST_ROUND:
        raise BadNet("round", 0)
    if not 0 <= events <= MOST_EVENTS:
        raise BadNet("events", 0)
    if len(spans) > MOST_SPANS:
        raise BadNet("spans", 0)
    for number, span in enumerate(spans):
        if not is_span(span, round_length, events):
            raise BadNet("span", number)


class Net:
    """A round, a number of events, and spans between the events."""

    def __init__(self, round_length, events, spans):
        check_net(round_length, events, spans)
        self.round_length = round_length
        self.events = events
        self.spans = tuple([tuple(span) for span in spans])

    def __eq__(self, other):
        return (isinstance(other, Net) and self.round_length == other.round_length
                and self.events == other.events and self.spans == other.spans)

    def plus(self, *spans):
        """The net that has these spans after its own."""
        return Net(self.round_length, self.events, list(self.spans) + list(spans))

    def without(self, *numbers):
        """The net that does not have the spans with these numbers."""
        for number in numbers:
            if not 0 <= number < len(self.spans):
                raise UnknownSpan(number)
        kept = [span for number, span in enumerate(self.spans) if number not in numbers]
        return Net(self.round_length, self.events, kept)

    def pieces(self):
        """The events that spans join, piece by piece."""
        # Each event points to the least event that is known to be in its piece.
        firsts = list(range(self.events))
        for span in self.spans:
            low, high = sorted([firsts[span[0]], firsts[span[1]]])
            firsts = [low if first == high else first for first in firsts]
        return [[event for event in range(self.events) if firsts[event] == head] for head in sorted(set(firsts))]
