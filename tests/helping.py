"""What several tests use."""

import itertools
import pickle
import random
import unittest

from depotday.books import Book
from depotday.cables import Cable
from depotday.chains import Chain
from depotday.clocks import Clock
from depotday.days import Day
from depotday.depots import Depot
from depotday.depottext import read_depot
from depotday.errors import BrokenSpan, DepotError
from depotday.lines import Line
from depotday.nets import Net
from depotday.turns import Turns

EIGHT = list("abcdefgh")
GREAT = 10 ** 9


def random_book(chance, lines=EIGHT):
    """A book with up to four pages, in which some may never be reached."""
    names = chance.sample(["day", "night", "a", "b", "sunday"], chance.randint(1, 4))
    pages = [(name, chance.sample(lines, chance.randint(0, len(lines))),
              chance.sample(names, chance.randint(1, len(names)))) for name in names]
    return Book(pages, chance.sample(names, chance.randint(1, len(names))))


def some_books():
    chance = random.Random(9)
    return [random_book(chance) for _ in range(60)]


def random_span(chance, length, events):
    start, end = chance.sample(range(events), 2)
    least = chance.choice((0, 1, 2, chance.randint(0, 9)))
    return start, end, least, least + chance.randint(0, length - 1)


def random_net(chance, lengths=(2, 5), events=(0, 4), spans=(0, 6)):
    """A net in which often no timetable keeps all spans, and often several spans join the same events."""
    length, number = chance.randint(*lengths), chance.randint(*events)
    many = chance.randint(*spans) if number > 1 else 0
    return Net(length, number, [random_span(chance, length, number) for _ in range(many)])


def some_nets(seed, number=150):
    chance = random.Random(seed)
    return [random_net(chance) for _ in range(number)]


def random_line(chance, name, length, full=6):
    least = chance.randint(1, 2 * length)
    most = min(2 * length, least + chance.randint(0, length - 1))
    return Line(name, least, most, chance.randint(0, full), chance.randint(0, min(3, length - 1)))


def random_tie(chance, length, names):
    events = [(name, side) for name in names for side in ("out", "home")]
    start, end = chance.sample(events, 2)
    least = chance.randint(0, length)
    return (*start, *end, least, least + chance.randint(length // 2, length - 1))


def random_clock(chance, lengths=(2, 6), lines=(1, 4), ties=(0, 3), full=6):
    length = chance.randint(*lengths)
    names = EIGHT[:chance.randint(*lines)]
    return Clock(length, [random_line(chance, name, length, full) for name in names],
                 [random_tie(chance, length, names) for _ in range(chance.randint(*ties))])


def some_clocks(seed, number=60):
    """Small clocks, so that all their timetables can be looked at."""
    chance = random.Random(seed)
    return [random_clock(chance, lines=(1, 2)) for _ in range(number)]


def all_times(net):
    """All timetables of a net, as lists."""
    return [list(times) for times in itertools.product(range(net.round_length), repeat=net.events)]


def kept_times(net):
    """All timetables that keep a net, found without the program's own words for it."""
    return [times for times in all_times(net)
            if all((times[end] - times[start] - least) % net.round_length <= most - least
                   for start, end, least, most in net.spans)]


def random_depot(chance, plain=False, **more):
    clock = random_clock(chance, **more)
    names = [line.name for line in clock.lines]
    book = Book([("day", names, ["day"])], ["day"]) if plain else random_book(chance, names)
    pairs = [(first, second) for first in names for second in names]
    turns = Turns(chance.choice((None, 0, 1, 4)), chance.choices(names, k=chance.randint(1, 5)),
                  chance.sample(pairs, chance.randint(0, min(3, len(pairs)))))
    full = chance.randint(max(line.use for line in clock.lines), 6)
    return Depot(clock, Cable(chance.randint(0, 4), full), turns, book)


def random_day(chance, **more):
    """A depot with a timetable that keeps its runs and makes its ties sure."""
    while True:
        depot = random_depot(chance, **more)
        for _ in range(20):
            times = []
            for line in depot.clock.lines:
                out = chance.randrange(depot.clock.round_length)
                times += [out, (out + chance.randint(line.least, line.most)) % depot.clock.round_length]
            try:
                return Day(depot, times)
            except BrokenSpan:
                continue


def some_days(seed, number=60, **more):
    chance = random.Random(seed)
    return [random_day(chance, **more) for _ in range(number)]


def random_chain(chance, day, more=1):
    """A chain whose waits are those of the shortest one, somewhat greater, or now and then too few."""
    nexts = list(range(len(day.outs)))
    chance.shuffle(nexts)
    short = Chain.shortest(day, nexts)
    return Chain(day, nexts, [max(0, wait + chance.choice((0, 0, 0, 0, -1, more))) for wait in short.waits])


def some_fitting_chains(seed, number=80, **more):
    chance = random.Random(seed)
    chains = [random_chain(chance, day, chance.choice((1, 1, 2))) for day in some_days(seed, 2 * number, **more)]
    return [chain for chain in chains if chain.fits][:number]


def with_cable(day, width, full):
    """The same day at another cable."""
    return day.changed(width=width, full=full)


def day_of(times, *rows):
    """The day of a depot whose text has these rows."""
    return Day(read_depot("\n".join(rows)), times)


def great_day(vehicles):
    """A day whose game has somewhat less than 2000 standings with 3 vehicles, and more with 4."""
    return day_of([0, 2, 3, 2], "round 6", "line a 2 2 use 1 late 1", "line b 5 5 use 2 late 2", "cable 1 6", "patience 2",
                  *["vehicle a"] * vehicles, "page p a b > p q", "page q a > q p", "start p")


def some_small_days(seed, number=60, **more):
    """Days of every kind whose games are mostly small, plain and free ones among them."""
    chance = random.Random(seed)
    limits = {"lengths": (2, 3), "lines": (1, 3), "full": 2, **more}
    return [random_day(chance, plain=chance.random() < 0.5, **limits) for _ in range(number)]


def random_ringed_day(chance):
    """A day whose turns let one line only behind each line, and another one behind each other."""
    length, many = chance.randint(2, 4), chance.randint(1, 3)
    names, nexts = EIGHT[:many], chance.sample(range(many), many)
    lines, times = [], []
    for name in names:
        run, out = chance.randint(1, 2 * length), chance.randrange(length)
        lines.append(Line(name, run, run, chance.randint(0, 2), chance.randint(0, min(2, length - 1))))
        times += [out, (out + run) % length]
    bars = [(names[i], names[j]) for i in range(many) for j in range(many) if j != nexts[i]]
    turns = Turns(0, chance.choices(names, k=chance.randint(1, 5)), bars)
    book = Book([("p", names, ["p"])], ["p"])
    return Day(Depot(Clock(length, lines), Cable(chance.randint(0, 2), chance.randint(2, 3)), turns, book), times)


def some_ringed_days(seed, number=60):
    chance = random.Random(seed)
    return [random_ringed_day(chance) for _ in range(number)]


def random_standing(chance, day):
    """A proper standing of a day, mostly one to which nothing leads."""
    depot = day.depot
    full, patience, lines = depot.cable.full, depot.turns.patience or 0, range(len(day.outs))
    places = [(line, due) for line in lines for due in range(-depot.clock.lines[line].late, day.runs[line])]
    many = chance.randint(0, 5)
    gone = chance.sample(places, min(len(places), chance.randint(0, many)))
    out = sorted((line, due, chance.randint(0, full)) for line, due in gone)
    home = [(chance.randint(0, full), chance.choice(lines) if depot.turns.bars else -1, chance.randint(0, patience))
            for _ in range(many - len(out))]
    minute = chance.randrange(depot.clock.round_length)
    page = chance.randrange(-1 if minute == 0 else 0, len(depot.book))
    return page, minute, tuple(sorted(home)) if depot.free else tuple(home), tuple(out)


class Case(unittest.TestCase):
    """A test case that can look at refusals."""

    def refused(self, error, values, call, *args, **more):
        """The call raises exactly this error, with these values of its attributes in order."""
        with self.assertRaises(DepotError) as caught:
            call(*args, **more)
        self.assertIs(type(caught.exception), error)
        self.assertEqual(list(vars(caught.exception).values()), list(values))

    def keeps(self, call, *args, **more):
        """The call changes nothing of what it is passed or called on; what it returns is returned."""
        told = (getattr(call, "__self__", None), args, more)
        before = pickle.dumps(told)
        found = call(*args, **more)
        self.assertEqual(pickle.dumps(told), before)
        return found

    def fresh(self, read, change):
        """What `read` returns is new each time: changing it has no effect."""
        first, again = read(), read()
        self.assertIsNot(first, again)
        change(first)
        self.assertNotEqual(first, again)
        self.assertEqual(read(), again)
