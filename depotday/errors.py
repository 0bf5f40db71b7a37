"""All errors of the package, side by side under one base class."""


class DepotError(ValueError):
    """Something that the package refuses."""


class BadLoad(DepotError):
    """A load cannot be made, read, changed or combined in this way."""


class BadRounds(DepotError):
    """A list does not have one integer for each base ring."""


class NotRinged(DepotError):
    """A depot, a chain or a plan is not the ringed one that is needed."""


class NoNews(DepotError):
    """This is not news of the standing."""


class NoAnswer(DepotError):
    """This is no answer to the news, or there is none."""


class UnknownStanding(DepotError):
    """There is no such standing here."""


class NewsHeard(DepotError):
    """The news of the present minute has been heard already."""


class NotHeard(DepotError):
    """The news of the present minute has not been heard yet."""


class WrongLines(DepotError):
    """The lines of the orders are not those that go out now."""


class NothingToUndo(DepotError):
    """No deed can be taken back."""


class NothingToRedo(DepotError):
    """No deed that was taken back can be done again."""


class BadBook(DepotError):
    """A book cannot have this part."""

    def __init__(self, part, place):
        self.part = part
        self.place = place


class BadNet(DepotError):
    """A net cannot have this part."""

    def __init__(self, part, place):
        self.part = part
        self.place = place


class BadClock(DepotError):
    """A clock cannot have this part."""

    def __init__(self, part, place):
        self.part = part
        self.place = place


class BadTurns(DepotError):
    """Turns cannot have this part."""

    def __init__(self, part, place):
        self.part = part
        self.place = place


class BadDepot(DepotError):
    """Parts of a depot do not fit together."""

    def __init__(self, part, place):
        self.part = part
        self.place = place


class BadChain(DepotError):
    """A chain cannot have this part."""

    def __init__(self, part, place):
        self.part = part
        self.place = place


class BadPlan(DepotError):
    """A plan of one round cannot have this part."""

    def __init__(self, part, place):
        self.part = part
        self.place = place


class BadRun(DepotError):
    """A line cannot have this part."""

    def __init__(self, part):
        self.part = part


class BadCable(DepotError):
    """A cable cannot have this part."""

    def __init__(self, part):
        self.part = part


class BadRule(DepotError):
    """A rule cannot have this part."""

    def __init__(self, part):
        self.part = part


class BadTimes(DepotError):
    """A timetable is wrong at this index."""

    def __init__(self, place):
        self.place = place


class BadPath(DepotError):
    """A list of steps is wrong at this index."""

    def __init__(self, place):
        self.place = place


class UnknownName(DepotError):
    """Nothing has this name."""

    def __init__(self, name):
        self.name = name


class WrongPage(DepotError):
    """The page with this name cannot come now."""

    def __init__(self, name):
        self.name = name


class BadNumber(DepotError):
    """A number is outside of its limits."""

    def __init__(self, number):
        self.number = number


class BadMinute(DepotError):
    """This is not a minute of the round."""

    def __init__(self, number):
        self.number = number


class BadLine(DepotError):
    """The line of a text with this number is wrong."""

    def __init__(self, number):
        self.number = number


class UnknownPage(DepotError):
    """No page has this index."""

    def __init__(self, number):
        self.number = number


class UnknownSpan(DepotError):
    """No span has this number."""

    def __init__(self, number):
        self.number = number


class UnknownEvent(DepotError):
    """No event has this number."""

    def __init__(self, number):
        self.number = number


class UnknownLine(DepotError):
    """No line has this index."""

    def __init__(self, number):
        self.number = number


class BrokenSpan(DepotError):
    """A timetable does not keep this span."""

    def __init__(self, number):
        self.number = number


class LateTie(DepotError):
    """No timetable, or not this one, makes this tie sure."""

    def __init__(self, number):
        self.number = number


class TooMany(DepotError):
    """There are more things to look at than this."""

    def __init__(self, number):
        self.number = number


class WrongCharge(DepotError):
    """Not as many vehicles are charged as this."""

    def __init__(self, number):
        self.number = number


class UnknownVehicle(DepotError):
    """There is no such vehicle."""

    def __init__(self, vehicle):
        self.vehicle = vehicle


class AtHome(DepotError):
    """This vehicle is at home already."""

    def __init__(self, vehicle):
        self.vehicle = vehicle


class NotHome(DepotError):
    """This vehicle is not at home, or is taken already."""

    def __init__(self, vehicle):
        self.vehicle = vehicle


class Barred(DepotError):
    """The line is barred after the last line of this vehicle."""

    def __init__(self, vehicle):
        self.vehicle = vehicle


class PassedOver(DepotError):
    """This vehicle would be passed over too often."""

    def __init__(self, vehicle):
        self.vehicle = vehicle


class NotOut(DepotError):
    """This vehicle is not out, or is named twice."""

    def __init__(self, vehicle):
        self.vehicle = vehicle


class TooEarly(DepotError):
    """This vehicle cannot come home yet."""

    def __init__(self, vehicle):
        self.vehicle = vehicle


class Overdue(DepotError):
    """This vehicle must come home now."""

    def __init__(self, vehicle):
        self.vehicle = vehicle


class Short(DepotError):
    """This vehicle has too few units."""

    def __init__(self, vehicle):
        self.vehicle = vehicle


class IsFull(DepotError):
    """This vehicle has all units that it can hold."""

    def __init__(self, vehicle):
        self.vehicle = vehicle


class ShutRing(DepotError):
    """This ring, a list of steps, shuts the rounds out."""

    def __init__(self, ring):
        self.ring = list(ring)


class Overdrawn(DepotError):
    """The cable cannot give these lines, a tuple, what they need."""

    def __init__(self, lines):
        self.lines = tuple(lines)


class BadCommand(DepotError):
    """The line with this number is no command, or its call raised why."""

    def __init__(self, number, why):
        self.number = number
        self.why = why
