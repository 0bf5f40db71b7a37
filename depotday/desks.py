"""Desks: a day live, with deeds that can be taken back."""

from depotday.errors import BadNumber, IsFull, NewsHeard, NoAnswer, NotHeard, NothingToRedo, NothingToUndo, NotOut
from depotday.errors import Overdue, Short, TooEarly, UnknownVehicle, WrongCharge, WrongLines, WrongPage
from depotday.games import Game
from depotday.moments import Moment
from depotday.standings import coming_pages

MOST_MEMORY = 200


def check_memory(number):
    """Refuse what cannot be the number of deeds that a desk remembers."""
    if not 0 <= number <= MOST_MEMORY:
        raise BadNumber(number)


def check_coming(moment, vehicles):
    """Refuse vehicles that cannot come home now, and then the lack of one that must."""
    for at, vehicle in enumerate(vehicles):
        if not moment.is_away(vehicle) or vehicle in vehicles[:at]:
            raise NotOut(vehicle)
    for vehicle in vehicles:
        if moment.dues[vehicle] > 0:
            raise TooEarly(vehicle)
    lines = moment.day.depot.clock.lines
    for vehicle in sorted(moment.away()):
        if moment.dues[vehicle] == -lines[moment.line_of(vehicle)].late and vehicle not in vehicles:
            raise Overdue(vehicle)


def coming_page(moment, page):
    """The index of the page with this name, which must be one that can come now."""
    book = moment.day.depot.book
    pages = coming_pages(book, moment.before)
    names = [book.names[at] for at in pages] if moment.minute == 0 else [""]
    if page not in names:
        raise WrongPage(page)
    return pages[names.index(page)]


def leaving_names(moment):
    """The names of the lines that go out now, in the order of the clock."""
    lines = moment.day.depot.clock.lines
    return [lines[at].name for at in moment.day.leaving(moment.message[0], moment.minute)]


def in_line_order(moment, orders):
    """The orders in the order of the lines of the clock, which must be those that go out now."""
    names = leaving_names(moment)
    if sorted([line for line, _ in orders]) != sorted(names):
        raise WrongLines()
    return [(line, vehicle) for name in names for line, vehicle in orders if line == name]


def check_units(moment, orders):
    """Refuse the first vehicle with fewer units than its line uses."""
    clock = moment.day.depot.clock
    for line, vehicle in orders:
        if moment.units[vehicle] < clock.lines[clock.index(line)].use:
            raise Short(vehicle)


def check_charge(moment, charge):
    """Refuse what cannot be the vehicles that are charged, once those that are sent have left the queue."""
    moment.queue.check_home(charge)
    cable = moment.day.depot.cable
    for vehicle in charge:
        if moment.units[vehicle] == cable.full:
            raise IsFull(vehicle)
    able = [vehicle for vehicle in moment.queue if moment.units[vehicle] < cable.full]
    if len(charge) != min(cable.width, len(able)):
        raise WrongCharge(min(cable.width, len(able)))


def hear_row(page, vehicles):
    """The row of the log for news."""
    begin = ["hear", "page", page] if page else ["hear"]
    return " ".join(begin + [str(vehicle) for vehicle in sorted(vehicles)])


def answer_row(orders, charge):
    """The row of the log for an answer."""
    sent = [f"{line} {vehicle}" for line, vehicle in orders]
    return " ".join(["answer"] + sent + [">"] + [str(vehicle) for vehicle in sorted(charge)])


class Desk:
    """A day that is run live: news is heard and answered, minute by minute."""

    def __init__(self, day, *, memory=50, most=2000):
        check_memory(memory)
        self._game = Game(day, most=most)
        self._memory = memory
        # A moment is never changed once it is here, so that it can be gone back to.
        self._moment = Moment(day)
        self._done = []
        self._undone = []
        self._log = []

    def __len__(self):
        return len(self._moment.units)

    def __iter__(self):
        raise TypeError("a desk is not iterated over")

    def __getitem__(self, at):
        moment = self._moment
        if not 0 <= at < len(moment.units):
            raise UnknownVehicle(at)
        count = moment.queue.passed(at) if at in moment.queue else 0
        return moment.units[at], moment.sendings[at], moment.lasts[at], count

    @property
    def now(self):
        """The round and the minute."""
        return self._moment.number, self._moment.minute

    @property
    def page(self):
        """The name of the page of the round, the empty string if none has come yet."""
        moment = self._moment
        if moment.minute == 0 and moment.message is None:
            return ""
        at = moment.before[0] if moment.message is None else moment.message[0]
        return moment.day.depot.book.names[at]

    @property
    def heard(self):
        """True if the news of the minute has come."""
        return self._moment.message is not None

    @property
    def standing(self):
        """The standing before the news of the minute."""
        return self._moment.before

    @property
    def given(self):
        """The units that the cable has given so far."""
        return self._moment.given_units

    @property
    def used(self):
        """The units of all lines that were sent so far."""
        return self._moment.used_units

    @property
    def log(self):
        """The rows of all deeds that are not taken back."""
        return list(self._log)

    @property
    def memory(self):
        """The most deeds that can be taken back."""
        return self._memory

    @memory.setter
    def memory(self, value):
        self.remember(value)

    def remember(self, number):
        """Change the most deeds that can be taken back."""
        check_memory(number)
        self._memory = number
        self._forget()

    def _forget(self):
        """Forget the oldest deeds of too many."""
        self._done = self._done[max(0, len(self._done) - self._memory):]

    def home(self):
        """The list of the vehicles at home, in the order of the queue."""
        return self._moment.queue.order()

    def out(self):
        """The list of the vehicles that are out, each with the name of its line and its due."""
        moment = self._moment
        return [(vehicle, moment.lasts[vehicle], due) for vehicle, due in enumerate(moment.dues) if due is not None]

    def _do(self, moment, row):
        """Go on to a moment by a deed."""
        self._done.append(self._moment)
        self._moment = moment
        self._log.append(row)
        self._forget()

    def hear(self, *vehicles, page=""):
        """Take the news of the minute: these vehicles come home, and in minute 0 the page with this name begins."""
        if self.heard:
            raise NewsHeard()
        at = coming_page(self._moment, page)
        check_coming(self._moment, vehicles)
        moment = self._moment.clone()
        moment.come_home(at, vehicles)
        self._undone = []
        self._do(moment, hear_row(page, vehicles))

    def _check_heard(self):
        if not self.heard:
            raise NotHeard()

    def answer(self, orders, charge):
        """Answer the news, and end the minute."""
        self._check_heard()
        ordered = in_line_order(self._moment, orders)
        self._moment.queue.check_home([vehicle for _, vehicle in ordered])
        check_units(self._moment, ordered)
        moment = self._moment.clone()
        moment.go_out(ordered)
        check_charge(moment, charge)
        moment.end(charge)
        self._undone = []
        self._do(moment, answer_row(ordered, charge))

    def advice(self):
        """The best orders and charge, None if there are none."""
        self._check_heard()
        moment = self._moment
        answer = self._game.best_move(moment.before, moment.message)[1]
        if answer is None:
            return None
        sent, charged = answer
        vehicles = moment.waiting()
        orders = [(name, vehicles[at]) for name, at in zip(leaving_names(moment), sent)]
        return orders, sorted([vehicles[at] for at in charged])

    def follow(self):
        """Answer with the advice, which is returned."""
        advice = self.advice()
        if advice is None:
            raise NoAnswer()
        orders, charge = advice
        self.answer(orders, charge)
        return advice

    def danger(self):
        """The greatest rank that the day can have now, None if it can be held."""
        moment = self._moment
        if moment.message is None:
            return self._game.rank(moment.before)
        return self._game.best_move(moment.before, moment.message)[0]

    def undo(self):
        """Take the last deed back."""
        if not self._done:
            raise NothingToUndo()
        self._undone.append((self._moment, self._log.pop()))
        self._moment = self._done.pop()

    def redo(self):
        """Do the deed again that was taken back last."""
        if not self._undone:
            raise NothingToRedo()
        moment, row = self._undone.pop()
        self._do(moment, row)

    def kept(self):
        """All that `restore` needs to make the desk as it is now."""
        return self._moment, list(self._done), list(self._undone), list(self._log)

    def restore(self, kept):
        """Make the desk as it was when this was kept."""
        moment, done, undone, log = kept
        self._moment = moment
        self._done, self._undone, self._log = list(done), list(undone), list(log)
