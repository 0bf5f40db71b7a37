"""Plans of one round: in which minutes of its stays each vehicle gets a unit."""

from depotday.chains import check_line, check_stays
from depotday.cuts import overdrawn, spares_of, uses_of, width_of
from depotday.errors import BadMinute, BadNumber, BadPlan, Overdrawn
from depotday.flows import greatest_flow


def minute_of(chain, line, place):
    """The minute of the round of a place in the stay before a line."""
    return (chain.home_minute(line) + place) % chain.day.depot.clock.round_length


def are_places(places, stay):
    """True if these are different places of a stay in ascending order."""
    inside = all([0 <= place < stay for place in places])
    return inside and all([before < after for before, after in zip(places, places[1:])])


def check_charges(chain, charges):
    """Refuse what does not have places for every line."""
    lines = len(chain.stays)
    for at in range(max(lines, len(charges))):
        if at >= lines or at >= len(charges) or not are_places(charges[at], chain.stays[at]):
            raise BadPlan("charges", at)


def check_carries(chain, carries):
    """Refuse what does not have a number of units left for every line."""
    spares = spares_of(chain)
    for at in range(max(len(spares), len(carries))):
        if at >= len(spares) or at >= len(carries) or not 0 <= carries[at] <= spares[at]:
            raise BadPlan("carries", at)


def units_in(chain, charges, minute):
    """The ascending list of the pairs of a line and a place whose unit is given in a minute of the round."""
    pairs = [(line, place) for line, places in enumerate(charges) for place in places]
    return [(line, place) for line, place in pairs if minute_of(chain, line, place) == minute]


def check_width(chain, charges, width):
    """Refuse places that give more than the cable does in some minute."""
    for minute in range(chain.day.depot.clock.round_length):
        if len(units_in(chain, charges, minute)) > width:
            raise BadPlan("width", minute)


def check_units(chain, charges, carries):
    """Refuse a line for which a vehicle does not get what it uses and has left."""
    for line, use in enumerate(uses_of(chain)):
        if carries[chain.befores[line]] + len(charges[line]) != use + carries[line]:
            raise BadPlan("units", line)


class RoundPlan:
    """The places at which units are given, and what each vehicle has left when it goes out."""

    def __init__(self, chain, charges, carries, *, width=None):
        check_stays(chain)
        width = width_of(chain, width)
        check_charges(chain, charges)
        check_carries(chain, carries)
        check_width(chain, charges, width)
        check_units(chain, charges, carries)
        self.chain = chain
        self.charges = tuple([tuple(places) for places in charges])
        self.carries = tuple(carries)
        self.width = width

    def __eq__(self, other):
        return (isinstance(other, RoundPlan) and self.chain == other.chain and self.charges == other.charges
                and self.carries == other.carries and self.width == other.width)

    def at(self, minute):
        """The ascending list of the pairs of a line and a place whose unit is given in a minute of the round."""
        if not 0 <= minute < self.chain.day.depot.clock.round_length:
            raise BadMinute(minute)
        return units_in(self.chain, self.charges, minute)

    def level(self, line, place):
        """The units of the vehicle before a minute of its stay before a line."""
        check_line(self.chain.day, line)
        if not 0 <= place <= self.chain.stays[line]:
            raise BadNumber(place)
        return self.carries[self.chain.befores[line]] + len([other for other in self.charges[line] if other < place])


def roads(chain, width):
    """How many units can go between places: the lines, then the minutes, then the cable, then what is used up."""
    lines, length = len(chain.stays), chain.day.depot.clock.round_length
    cable, used_up = lines + length, lines + length + 1
    limits = [[0] * (used_up + 1) for _ in range(used_up + 1)]
    for minute in range(length):
        limits[cable][lines + minute] = width
    for line, stay in enumerate(chain.stays):
        for place in range(stay):
            limits[lines + minute_of(chain, line, place)][line] += 1
    for line, use in enumerate(uses_of(chain)):
        limits[line][used_up] = use
    for line, spare in enumerate(spares_of(chain)):
        limits[line][chain.nexts[line]] = spare
    return limits


def places_for(chain, line, units):
    """Places in the stay before a line that give it so many units in each minute of the round."""
    left = list(units)
    places = []
    for place in range(chain.stays[line]):
        minute = minute_of(chain, line, place)
        if left[minute] > 0:
            left[minute] -= 1
            places.append(place)
    return places


def round_plan(chain, *, width=None):
    """A plan of one round, if no set of lines is overdrawn."""
    lines = overdrawn(chain, width=width)
    if lines is not None:
        raise Overdrawn(lines)
    width = width_of(chain, width)
    number, length = len(chain.stays), chain.day.depot.clock.round_length
    flow = greatest_flow(roads(chain, width), number + length, number + length + 1)
    charges = [places_for(chain, line, [flow[number + minute][line] for minute in range(length)])
               for line in range(number)]
    # No unit goes along a road from a line to itself, so such a line carries nothing.
    carries = [flow[line][chain.nexts[line]] for line in range(number)]
    return RoundPlan(chain, charges, carries, width=width)
