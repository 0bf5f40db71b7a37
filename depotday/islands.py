"""Islands: which rounds the timetables of a net can have, and the earliest timetable of each."""

from depotday.bases import Base, parts
from depotday.errors import BadRounds, ShutRing, TooMany
from depotday.paths import is_ring

MOST_LISTS = 200


def ring_limits(net, ring):
    """The least and the greatest minutes of a ring."""
    low, high = 0, 0
    for number, direction in ring:
        _, _, least, most = net.spans[number]
        low += least if direction == 1 else -most
        high += most if direction == 1 else -least
    return low, high


def choices(net):
    """For each base ring the least and the greatest rounds that its own spans let."""
    limits = [ring_limits(net, ring) for ring in Base(net).rings()]
    return [(-(-low // net.round_length), high // net.round_length) for low, high in limits]


def check_rounds(net, rounds):
    """Refuse a list that does not have one integer for each base ring."""
    if len(rounds) != len(Base(net)):
        raise BadRounds()


def pulls(net, rounds):
    """For each step its two events, the least minutes from one to the other, and the step itself.

    The minutes are meant along tree spans, so a closing span counts without the rounds of its ring.
    """
    apart = [number * net.round_length for number in rounds]
    shifts = dict(zip(Base(net).closing, apart))
    rows = []
    for number, (start, end, least, most) in enumerate(net.spans):
        shift = shifts.get(number, 0)
        rows.append((start, end, least - shift, (number, 1)))
        rows.append((end, start, shift - most, (number, -1)))
    return rows


def ring_behind(came, event):
    """A ring of the steps by which events came to their minutes, walked backward."""
    # As many steps back as there are events surely lead onto the ring.
    for _ in range(len(came)):
        event = came[event][0]
    ring, place = [], event
    while not ring or place != event:
        place, (number, direction) = came[place]
        ring.append((number, -direction))
    return ring


def settle(net, rounds):
    """The least minutes of the events along tree spans and None, or None and a ring that shuts the rounds out."""
    minutes = [None] * net.events
    for piece in net.pieces():
        minutes[piece[0]] = 0
    rows = pulls(net, rounds)
    came = {}
    # What still moves in the last turn is pushed round and round by a ring.
    for _ in range(net.events + 1):
        moved = None
        for start, end, gain, step in rows:
            if minutes[start] is not None and (minutes[end] is None or minutes[end] < minutes[start] + gain):
                minutes[end] = minutes[start] + gain
                came[end] = (start, step)
                moved = end
        if moved is None:
            return minutes, None
    return None, ring_behind(came, moved)


def earliest(net, rounds):
    """The earliest timetable with these rounds."""
    check_rounds(net, rounds)
    minutes, ring = settle(net, rounds)
    if ring is not None:
        raise ShutRing(ring)
    return [minute % net.round_length for minute in minutes]


def shuts(net, rounds, ring):
    """True if the list is a ring that shuts the rounds out."""
    check_rounds(net, rounds)
    if not is_ring(net, ring):
        return False
    wanted = sum([part * number for part, number in zip(parts(net, ring), rounds)])
    return ring_limits(net, ring)[1] < net.round_length * wanted


def count_lists(pairs):
    """The number of the lists that take one number from each pair of limits."""
    count = 1
    for low, high in pairs:
        count = count * max(0, high - low + 1)
    return count


def islands(net):
    """The ascending list of all lists of rounds that some timetable has."""
    pairs = choices(net)
    count = count_lists(pairs)
    if count > MOST_LISTS:
        raise TooMany(count)
    if count == 0:
        return []
    rows = [[]]
    for low, high in pairs:
        rows = [row + [number] for row in rows for number in range(low, high + 1)]
    return [row for row in rows if settle(net, row)[1] is None]


def ring_range(net, ring):
    """The least and the greatest rounds of a ring by any timetable, None if there is no timetable."""
    shares = parts(net, ring)
    found = [sum([part * number for part, number in zip(shares, row)]) for row in islands(net)]
    return (min(found), max(found)) if found else None
