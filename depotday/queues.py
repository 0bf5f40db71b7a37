"""Queues: the order of the vehicles at home, and how often they are passed over."""

from depotday.errors import AtHome, Barred, NotHome, PassedOver
from depotday.turns import check_bars, check_patience


def passes(lasts, orders, bars):
    """How often orders, pairs of a line and a place in the queue, pass over each vehicle of a queue.

    `lasts` has the line that each vehicle ran last, in the order of the queue.
    """
    sent = [place for _, place in orders]
    counts = []
    for at, last in enumerate(lasts):
        over = [line for line, place in orders if at < place and (last, line) not in bars]
        counts.append(0 if at in sent else len(over))
    return counts


class Queue:
    """The vehicles at home in their order, with the line that each ran last and how often it was passed over."""

    def __init__(self, patience, bars=()):
        check_patience(patience)
        check_bars(bars)
        self.patience = patience
        self.bars = tuple([tuple(bar) for bar in bars])
        self._order = []
        self._lasts = {}
        self._counts = {}

    def __len__(self):
        return len(self._order)

    def __iter__(self):
        return iter(self._order)

    def __contains__(self, x):
        return x in self._lasts

    def __eq__(self, other):
        return (isinstance(other, Queue) and self.patience == other.patience and self.bars == other.bars
                and self._order == other._order and self._lasts == other._lasts and self._counts == other._counts)

    def come(self, vehicle, line):
        """Put a vehicle that ran a line last at the end."""
        if vehicle in self._lasts:
            raise AtHome(vehicle)
        self._order.append(vehicle)
        self._lasts[vehicle] = line
        self._counts[vehicle] = 0

    def check_home(self, vehicles):
        """Refuse the first vehicle that is not in the queue, or that occurs earlier."""
        for at, vehicle in enumerate(vehicles):
            if vehicle not in self._lasts or vehicle in vehicles[:at]:
                raise NotHome(vehicle)

    def _counts_after(self, orders):
        """How often each vehicle in order has been passed over since it came, once these orders are sent."""
        places = [(line, self._order.index(vehicle)) for line, vehicle in orders]
        more = passes([self._lasts[vehicle] for vehicle in self._order], places, self.bars)
        return [self._counts[vehicle] + count for vehicle, count in zip(self._order, more)]

    def _impatient(self, orders):
        """The vehicles that these orders would pass over too often."""
        counts = self._counts_after(orders)
        return [vehicle for vehicle, count in zip(self._order, counts)
                if self.patience is not None and count > self.patience]

    def send(self, orders):
        """Send vehicles out at the same time, each on a line; the ascending list of those passed over is returned."""
        sent = [vehicle for _, vehicle in orders]
        self.check_home(sent)
        for line, vehicle in orders:
            if (self._lasts[vehicle], line) in self.bars:
                raise Barred(vehicle)
        impatient = self._impatient(orders)
        if impatient:
            raise PassedOver(impatient[0])
        counts = dict(zip(self._order, self._counts_after(orders)))
        over = sorted([vehicle for vehicle in self._order if counts[vehicle] > self._counts[vehicle]])
        self._order = [vehicle for vehicle in self._order if vehicle not in sent]
        self._lasts = {vehicle: self._lasts[vehicle] for vehicle in self._order}
        self._counts = {vehicle: counts[vehicle] for vehicle in self._order}
        return over

    def last(self, vehicle):
        """The name of the line that a vehicle ran last."""
        self.check_home([vehicle])
        return self._lasts[vehicle]

    def passed(self, vehicle):
        """How often a vehicle has been passed over since it came."""
        self.check_home([vehicle])
        return self._counts[vehicle]

    def ahead(self, vehicle):
        """The number of the vehicles that stand before a vehicle."""
        self.check_home([vehicle])
        return self._order.index(vehicle)

    def bound(self, vehicle):
        """The most orders for others, on lines that a vehicle may run, before it is sent; None if there is no most."""
        ahead = self.ahead(vehicle)
        return None if self.patience is None else ahead + self.patience - self._counts[vehicle]

    def choices(self, line):
        """The vehicles, in order, that could be sent on a line alone."""
        able = [vehicle for vehicle in self._order if (self._lasts[vehicle], line) not in self.bars]
        return [vehicle for vehicle in able if not self._impatient([(line, vehicle)])]

    def order(self):
        """The list of the vehicles in their order."""
        return list(self._order)

    def clone(self):
        """An equal queue that is independent."""
        other = Queue(self.patience, self.bars)
        other._order = list(self._order)
        other._lasts = dict(self._lasts)
        other._counts = dict(self._counts)
        return other
