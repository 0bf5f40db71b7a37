"""Moments: how the vehicles of a desk are in one minute, with their numbers."""

from depotday.queues import Queue
from depotday.standings import at_home, first_standing, last_known


class Moment:
    """A minute of a desk, before or after its news."""

    def __init__(self, day):
        depot, names = day.depot, day.depot.turns.vehicles
        self.day = day
        self.number = 0
        self.minute = 0
        # The standing before the news of the minute, and its news once they have come.
        self.before = first_standing(day)
        self.message = None
        self.queue = Queue(depot.turns.patience, depot.turns.bars)
        for vehicle, name in enumerate(names):
            self.queue.come(vehicle, name)
        self.units = [depot.cable.full for _ in names]
        self.sendings = [0 for _ in names]
        self.lasts = list(names)
        self.dues = [None for _ in names]
        self.given_units = 0
        self.used_units = 0

    def clone(self):
        """An equal moment that is independent."""
        other = Moment(self.day)
        other.number, other.minute = self.number, self.minute
        other.before, other.message = self.before, self.message
        other.queue = self.queue.clone()
        other.units, other.sendings = list(self.units), list(self.sendings)
        other.lasts, other.dues = list(self.lasts), list(self.dues)
        other.given_units, other.used_units = self.given_units, self.used_units
        return other

    def line_of(self, vehicle):
        """The index of the line that a vehicle was sent on last."""
        return self.day.depot.clock.index(self.lasts[vehicle])

    def is_away(self, vehicle):
        """True if the number is that of a vehicle that is out."""
        return 0 <= vehicle < len(self.dues) and self.dues[vehicle] is not None

    def away(self):
        """The vehicles that are out, in the order that they have in a standing."""
        # No two of them have the same line and the same due.
        rows = sorted([(self.line_of(vehicle), due, vehicle) for vehicle, due in enumerate(self.dues)
                       if due is not None])
        return [vehicle for _, _, vehicle in rows]

    def waiting(self):
        """The vehicles at home, in the order that they have in a standing."""
        if not self.day.depot.free:
            return self.queue.order()
        rows = [(self._home_row(vehicle), place, vehicle) for place, vehicle in enumerate(self.queue)]
        return [vehicle for _, _, vehicle in sorted(rows)]

    def _home_row(self, vehicle):
        """A vehicle at home as a standing has it."""
        depot = self.day.depot
        count = 0 if depot.free else self.queue.passed(vehicle)
        return self.units[vehicle], last_known(depot, self.line_of(vehicle)), count

    def _standing(self, page):
        """The standing of these vehicles, with this page."""
        home = [self._home_row(vehicle) for vehicle in self.queue]
        out = [(self.line_of(vehicle), self.dues[vehicle], self.units[vehicle]) for vehicle in self.away()]
        return page, self.minute, at_home(self.day.depot, home), tuple(out)

    def come_home(self, page, vehicles):
        """Take the news of the minute."""
        away = self.away()
        came = [at for at, vehicle in enumerate(away) if vehicle in vehicles]
        self.message = (page, tuple(came))
        for at in came:
            self.queue.come(away[at], self.lasts[away[at]])
            self.dues[away[at]] = None

    def go_out(self, orders):
        """Send vehicles out, each on the line with a name."""
        self.queue.send(orders)
        for name, vehicle in orders:
            line = self.day.depot.clock.index(name)
            use = self.day.depot.clock.lines[line].use
            self.units[vehicle] -= use
            self.used_units += use
            self.sendings[vehicle] += 1
            self.lasts[vehicle] = name
            self.dues[vehicle] = self.day.runs[line]

    def end(self, charged):
        """Charge vehicles, and go on to the next minute."""
        for vehicle in charged:
            self.units[vehicle] += 1
        self.given_units += len(charged)
        self.dues = [None if due is None else due - 1 for due in self.dues]
        rounds, self.minute = divmod(self.minute + 1, self.day.depot.clock.round_length)
        self.number += rounds
        self.before = self._standing(self.message[0])
        self.message = None
