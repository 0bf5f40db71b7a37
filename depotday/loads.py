"""Loads: one count for each minute of a round."""

from depotday.errors import BadLoad

MOST_LENGTH = 60
MOST_MINUTES = 10000


def check_length(length):
    """Refuse what cannot be the number of minutes of a load."""
    if not 1 <= length <= MOST_LENGTH:
        raise BadLoad()


def check_least(number, least):
    """Refuse a number that is less than the least one."""
    if number < least:
        raise BadLoad()


class Load:
    """One count for each minute of a round, none of them negative."""

    def __init__(self, counts):
        check_length(len(counts))
        check_least(min(counts), 0)
        self._counts = list(counts)

    @staticmethod
    def zero(length):
        """The load that has only zeros."""
        # A very great length must not become a list first.
        check_length(length)
        return Load([0] * length)

    @classmethod
    def of(cls, length, begin, minutes):
        """How often each minute of a round occurs among consecutive minutes."""
        check_length(length)
        if not 0 <= minutes <= MOST_MINUTES:
            raise BadLoad()
        rounds, rest = divmod(minutes, length)
        return cls([rounds + int((minute - begin) % length < rest) for minute in range(length)])

    def _check_minute(self, minute):
        if not 0 <= minute < len(self._counts):
            raise BadLoad()

    def _pairs(self, other):
        """The counts of both loads in each minute."""
        if len(self._counts) != len(other._counts):
            raise BadLoad()
        return list(zip(self._counts, other._counts))

    def __len__(self):
        return len(self._counts)

    def __iter__(self):
        return iter(self._counts)

    def __getitem__(self, at):
        self._check_minute(at)
        return self._counts[at]

    def __setitem__(self, at, worth):
        self.put(at, worth)

    def put(self, minute, count):
        """Replace the count of a minute."""
        self._check_minute(minute)
        check_least(count, 0)
        self._counts[minute] = count

    def __contains__(self, x):
        return 0 <= x < len(self._counts) and self._counts[x] != 0

    def __bool__(self):
        return any(self._counts)

    def __abs__(self):
        return sum(self._counts)

    def __eq__(self, other):
        return isinstance(other, Load) and self._counts == other._counts

    def __add__(self, other):
        return Load([mine + theirs for mine, theirs in self._pairs(other)])

    def __iadd__(self, other):
        self._counts = [mine + theirs for mine, theirs in self._pairs(other)]
        return self

    def __sub__(self, other):
        return Load([max(0, mine - theirs) for mine, theirs in self._pairs(other)])

    def __or__(self, other):
        return Load([max(mine, theirs) for mine, theirs in self._pairs(other)])

    def __and__(self, other):
        return Load([min(mine, theirs) for mine, theirs in self._pairs(other)])

    def __xor__(self, other):
        return Load([abs(mine - theirs) for mine, theirs in self._pairs(other)])

    def within(self, other):
        """True if no count is greater than that of the other load in the same minute."""
        return all([mine <= theirs for mine, theirs in self._pairs(other)])

    def __mul__(self, other):
        check_least(other, 0)
        return Load([count * other for count in self._counts])

    def __rmul__(self, other):
        return self * other

    def __floordiv__(self, other):
        check_least(other, 1)
        return Load([count // other for count in self._counts])

    def __mod__(self, other):
        check_least(other, 1)
        return Load([count % other for count in self._counts])

    def capped(self, width):
        """The load with the lesser one of each count and the width."""
        check_least(width, 0)
        return Load([min(count, width) for count in self._counts])

    def __lshift__(self, other):
        length = len(self._counts)
        return Load([self._counts[(minute + other) % length] for minute in range(length)])

    def __rshift__(self, other):
        return self << -other
