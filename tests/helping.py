"""What several tests use."""

import itertools
import pickle
import random
import unittest

from depotday.books import Book
from depotday.cables import Cable
from depotday.chains import Chain
from depotday.clocks import Clock
from depotday.days import Day
from depotday.depots import Depot
from depotday.errors import BrokenSpan, DepotError
from depotday.lines import Line
from depotday.nets import Net
from depotday.turns import Turns

EIGHT = list("abcdefgh")
GREAT = 10 ** 9


def random_book(chance, lines=EIGHT):
    """A book with up to four pages, in which some may never be reached."""
    names = chance.sample(["day", "night", "a", "b", "sunday"], chance.randint(1, 4))
    pages = [(name, chance.sample(lines, chance.randint(0, len(lines))),
              chance.sample(names, chance.randint(1, len(names)))) for name in names]
    return Book(pages, chance.sample(names, chance.randint(1, len(names))))


def some_books():
    chance = random.Random(9)
    return [random_book(chance) for _ in range(60)]


def random_span(chance, length, events):
    start, end = chance.sample(range(events), 2)
    least = chance.choice((0, 1, 2, chance.randint(0, 9)))
    return start, end, least, least + chance.randint(0, length - 1)


def random_net(chance, lengths=(2, 5), events=(0, 4), spans=(0, 6)):
    """A net in which often no timetable keeps all spans, and often several spans join the same events."""
    length, number = chance.randint(*lengths), chance.randint(*events)
    many = chance.randint(*spans) if number > 1 else 0
    return Net(length, number, [random_span(chance, length, number) for _ in range(many)])


def some_nets(seed, number=150):
    chance = random.Random(seed)
    return [random_net(chance) for _ in range(number)]


def random_line(chance, name, length, full=6):
    least = chance.randint(1, 2 * length)
    most = min(2 * length, least + chance.randint(0, length - 1))
    return Line(name, least, most, chance.randint(0, full), chance.randint(0, min(3, length - 1)))


def random_tie(chance, length, names):
    events = [(name, side) for name in names for side in ("out", "home")]
    start, end = chance.sample(events, 2)
    least = chance.randint(0, length)
    return (*start, *end, least, least + chance.randint(length // 2, length - 1))


def random_clock(chance, lengths=(2, 6), lines=(1, 4), ties=(0, 3), full=6):
    length = chance.randint(*lengths)
    names = EIGHT[:chance.randint(*lines)]
    return Clock(length, [random_line(chance, name, length, full) for name in names],
                 [random_tie(chance, length, names) for _ in range(chance.randint(*ties))])


def some_clocks(seed, number=60):
    """Small clocks, so that all their timetables can be looked at."""
    chance = random.Random(seed)
    return [random_clock(chance, lines=(1, 2)) for _ in range(number)]


def all_times(net):
    """All timetables of a net, as lists."""
    return [list(times) for times in itertools.product(range(net.round_length), repeat=net.events)]


def kept_times(net):
    """All timetables that keep a net, found without the program's own words for it."""
    return [times for times in all_times(net)
            if all((times[end] - times[start] - least) % net.round_length <= most - least
                   for start, end, least, most in net.spans)]


def random_depot(chance, plain=False, **more):
    clock = random_clock(chance, **more)
    names = [line.name for line in clock.lines]
    book = Book([("day", names, ["day"])], ["day"]) if plain else random_book(chance, names)
    pairs = [(first, second) for first in names for second in names]
    turns = Turns(chance.choice((None, 0, 1, 4)), chance.choices(names, k=chance.randint(1, 5)),
                  chance.sample(pairs, chance.randint(0, min(3, len(pairs)))))
    full = chance.randint(max(line.use for line in clock.lines), 6)
    return Depot(clock, Cable(chance.randint(0, 4), full), turns, book)


def random_day(chance, **more):
    """A depot with a timetable that keeps its runs and makes its ties sure."""
    while True:
        depot = random_depot(chance, **more)
        for _ in range(20):
            times = []
            for line in depot.clock.lines:
                out = chance.randrange(depot.clock.round_length)
                times += [out, (out + chance.randint(line.least, line.most)) % depot.clock.round_length]
            try:
                return Day(depot, times)
            except BrokenSpan:
                continue


def some_days(seed, number=60, **more):
    chance = random.Random(seed)
    return [random_day(chance, **more) for _ in range(number)]


def random_chain(chance, day, more=1):
    """A chain whose waits are those of the shortest one, somewhat greater, or now and then too few."""
    nexts = list(range(len(day.outs)))
    chance.shuffle(nexts)
    short = Chain.shortest(day, nexts)
    return Chain(day, nexts, [max(0, wait + chance.choice((0, 0, 0, 0, -1, more))) for wait in short.waits])


def some_fitting_chains(seed, number=80, **more):
    chance = random.Random(seed)
    chains = [random_chain(chance, day, chance.choice((1, 1, 2))) for day in some_days(seed, 2 * number, **more)]
    return [chain for chain in chains if chain.fits][:number]


def with_cable(day, width, full):
    """The same day at another cable."""
    return day.changed(width=width, full=full)


class Case(unittest.TestCase):
    """A test case that can look at refusals."""

    def refused(self, error, values, call, *args, **more):
        """The call raises exactly this error, with these values of its attributes in order."""
        with self.assertRaises(DepotError) as caught:
            call(*args, **more)
        self.assertIs(type(caught.exception), error)
        self.assertEqual(list(vars(caught.exception).values()), list(values))

    def keeps(self, call, *args, **more):
        """The call changes nothing of what it is passed or called on; what it returns is returned."""
        told = (getattr(call, "__self__", None), args, more)
        before = pickle.dumps(told)
        found = call(*args, **more)
        self.assertEqual(pickle.dumps(told), before)
        return found

    def fresh(self, read, change):
        """What `read` returns is new each time: changing it has no effect."""
        first, again = read(), read()
        self.assertIsNot(first, again)
        change(first)
        self.assertNotEqual(first, again)
        self.assertEqual(read(), again)
