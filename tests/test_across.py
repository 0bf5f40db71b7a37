"""What holds across, points [82] to [89], on small days of every kind."""

import itertools
import unittest

from depotday.answering import after
from depotday.books import Book
from depotday.chains import Chain
from depotday.clocks import Clock
from depotday.cuts import least_width, overdrawn
from depotday.days import Day
from depotday.depots import Depot
from depotday.errors import TooMany
from depotday.lines import Line
from depotday.loads import Load
from depotday.means import heaviest, most_in
from depotday.outs import out_load, peak
from depotday.papers import Table, decide
from depotday.ringed import ring_answer, ring_chain
from depotday.roundplans import RoundPlan
from depotday.standings import news_list
from depotday.turns import Turns
from helping import Case, day_of, some_ringed_days, some_small_days
from trying import ENDLESS, minutes_of


def made_anew(day, lines=None, turns=None, book=None):
    """The day with other parts."""
    depot = day.depot
    clock = Clock(depot.clock.round_length, lines or depot.clock.lines, depot.clock.ties)
    return Day(Depot(clock, depot.cable, turns or depot.turns, book or depot.book), day.times)


def with_line(day, at, use, late):
    """The day in which a line uses so much and is so late."""
    lines = list(day.depot.clock.lines)
    lines[at] = Line(lines[at].name, lines[at].least, lines[at].most, use, late)
    return made_anew(day, lines)


def with_turns(day, patience, more=()):
    turns = day.depot.turns
    return made_anew(day, turns=Turns(patience, turns.vehicles + tuple(more), turns.bars))


def with_more(day):
    """Days in which there is somewhat more of something, each with its kind."""
    depot = day.depot
    found = [("width", day.changed(width=min(4, depot.cable.width + 1))),
             ("full", day.changed(full=min(6, depot.cable.full + 1)))]
    for at, line in enumerate(depot.clock.lines):
        if line.use > 0:
            found.append(("use", with_line(day, at, line.use - 1, line.late)))
        if line.late > 0:
            found.append(("late", with_line(day, at, line.use, line.late - 1)))
    if depot.free:
        found += [("vehicles", with_turns(day, None, [line.name])) for line in depot.clock.lines
                  if len(depot.turns.vehicles) < 5]
    else:
        found += [("patience", with_turns(day, None)), ("patience", with_turns(day, min(4, depot.turns.patience + 1)))]
    return found


def with_fewer_lines(day):
    """Days in which one line is taken out of one page."""
    book = day.depot.book
    for page in range(len(book)):
        for line in book.lines_of(page):
            pages = [(name, [one for one in book.lines_of(at) if (at, one) != (page, line)],
                      [book.names[after] for after in book.followers_of(at)]) for at, name in enumerate(book.names)]
            yield made_anew(day, book=Book(pages, [book.names[at] for at in book.starts]))


def uses_of(day):
    return {line.name: line.use for line in day.depot.clock.lines}


def some_days_of_each_kind(seed, number=100):
    """Small days, with their minutes and their latest minutes, where these are known."""
    found = []
    for day in some_small_days(seed, number) + some_ringed_days(seed, number // 3):
        pair = minutes_of(day), minutes_of(day, latest=True)
        if None not in pair:
            found.append((day, *pair))
    return found


class Across(Case):
    @classmethod
    def setUpClass(cls):
        cls.days = some_days_of_each_kind(82, 160)

    def test_latest_comings_help_a_keeper(self):
        """Point [82]."""
        fewer, equal = 0, 0
        for day, minutes, latest in self.days:
            self.assertLessEqual(minutes, latest)
            fewer += minutes < latest
            if day.depot.free or day.depot.ringed:
                self.assertEqual(minutes, latest)
                equal += 1
        self.assertGreater(equal, 30)

    def test_a_foe_can_gain_by_an_early_coming(self):
        day = day_of([0, 0, 0, 1], "round 2", "line a 2 3 use 2 late 0", "line b 1 1 use 2 late 1", "cable 4 4",
                     "patience 0", "vehicle a", "vehicle b", "vehicle b", "page day a b > day", "start day")
        self.assertEqual([minutes_of(day), minutes_of(day, latest=True)], [5, 9])
        free = with_turns(day, None)
        self.assertEqual([minutes_of(free), minutes_of(free, latest=True)], [9, 9])

    def test_more_is_never_worse(self):
        """Point [83]."""
        seen = {}
        for day, minutes, latest in self.days:
            for kind, other in with_more(day):
                more, more_latest = minutes_of(other), minutes_of(other, latest=True)
                if more is not None:
                    seen[kind] = seen.get(kind, 0) + 1
                    self.assertGreaterEqual(more, minutes, kind)
                if more_latest is not None and (kind != "late" or day.depot.free or day.depot.ringed):
                    self.assertGreaterEqual(more_latest, latest, kind)
        self.assertEqual(sorted(seen), ["full", "late", "patience", "use", "vehicles", "width"])
        self.assertGreater(min(seen.values()), 20, seen)

    def test_fewer_lines_and_turned_days(self):
        """Point [84]."""
        fewer, turned = 0, 0
        for day, minutes, _ in self.days + some_days_of_each_kind(84, 60):
            if not day.depot.free or day.depot.turns.bars:
                continue
            for other in with_fewer_lines(day):
                more = minutes_of(other)
                if more is not None:
                    self.assertGreaterEqual(more, minutes)
                    fewer += 1
            if day.depot.plain:
                for k in range(-1, day.depot.clock.round_length):
                    self.assertEqual(minutes_of(day.turned(k)) == ENDLESS, minutes == ENDLESS)
                    turned += 1
        self.assertTrue(fewer > 20 and turned > 20, (fewer, turned))

    def test_the_peak(self):
        """Point [85]."""
        seen = 0
        for day, _, latest in self.days:
            number, walk, minute = peak(day)
            if len(day.depot.turns.vehicles) < number:
                self.assertLessEqual(latest, (len(walk) - 1) * day.depot.clock.round_length + minute + 1)
                seen += 1
        self.assertGreater(seen, 20)

    def test_the_peak_of_lines_that_use_nothing(self):
        """Point [85], its second half."""
        seen = {True: 0, False: 0}
        for day in some_small_days(85, 60, lines=(1, 3)):
            lines = [Line(line.name, line.least, line.most, 0, line.late) for line in day.depot.clock.lines]
            for vehicles in range(1, 6):
                turns = Turns(None, [lines[0].name] * vehicles)
                other = made_anew(day, lines, turns=turns)
                minutes = minutes_of(other)
                if minutes is not None:
                    self.assertEqual(minutes == ENDLESS, vehicles >= peak(other)[0])
                    seen[minutes == ENDLESS] += 1
        self.assertGreater(min(seen.values()), 30)

    def test_heavy_books(self):
        """Point [86]."""
        broken, endless = 0, 0
        for day, minutes, latest in self.days:
            depot = day.depot
            vehicles, length = len(depot.turns.vehicles), depot.clock.round_length
            for k in range(40):
                most = vehicles * depot.cable.full + depot.cable.width * length * k
                if most_in(depot.book, uses_of(day), k) > most:
                    self.assertLessEqual(latest, k * length)
                    broken += 1
            if minutes == ENDLESS:
                num, den = heaviest(depot.book, uses_of(day)).mean
                self.assertLessEqual(num, depot.cable.width * length * den)
                endless += num > 0
        self.assertTrue(broken > 100 and endless > 10, (broken, endless))

    def test_plain_days_that_use_too_much(self):
        """Point [87]."""
        seen = 0
        for day, _, latest in self.days:
            length = day.depot.clock.round_length
            if day.depot.plain:
                home = Load.of(length, 0, length) * len(day.depot.turns.vehicles) - out_load(day)
                if sum(uses_of(day).values()) > abs(home.capped(day.depot.cable.width)):
                    self.assertNotEqual(latest, ENDLESS)
                    seen += 1
        self.assertGreater(seen, 20)

    def test_ringed_days(self):
        """Point [88]; `least` is looked at beside it."""
        seen = {True: 0, False: 0}
        for day in some_ringed_days(88, 150):
            minutes = minutes_of(day)
            if minutes is not None:
                self.assertEqual(minutes == ENDLESS, isinstance(ring_answer(day), RoundPlan))
                seen[minutes == ENDLESS] += 1
        self.assertGreater(min(seen.values()), 20)

    def test_widths_of_ringed_days(self):
        """Point [88]: the least width of the chain is that of the day."""
        seen = {}
        for day in some_ringed_days(880, 60):
            found = [minutes_of(day.changed(width=width)) for width in range(5)]
            if None not in found:
                chain = ring_chain(day)
                width = least_width(chain) if chain.fits else None
                if width is not None and width > 4:
                    width = None
                self.assertEqual(found.index(ENDLESS) if ENDLESS in found else None, width)
                seen[width] = seen.get(width, 0) + 1
        self.assertTrue(len(seen) >= 3, seen)

    def test_chains_of_free_days(self):
        """Point [88], its end."""
        seen = 0
        for day in some_small_days(89, 300, full=3):
            minutes = minutes_of(day) if day.depot.free and not day.depot.turns.bars else None
            if minutes is not None and any(self.suits(day, chain) for chain in short_chains(day)):
                self.assertEqual(minutes, ENDLESS)
                seen += 1
        self.assertGreater(seen, 10)

    def suits(self, day, chain):
        return chain.fits and chain.fleet <= len(day.depot.turns.vehicles) and overdrawn(chain) is None

    def test_rounds_of_a_table(self):
        """Point [89]."""
        seen = 0
        for day, _, _ in self.days + some_days_of_each_kind(890, 60):
            for latest in (False, True):
                try:
                    table = decide(day, latest=latest, most=600)
                except TooMany:
                    continue
                if isinstance(table, Table) and day.depot.plain:
                    self.check_rounds(day, table)
                    seen += 1
        self.assertGreater(seen, 20)

    def check_rounds(self, day, table):
        """Follow a table with the latest news until a standing comes again."""
        standing, met, rows = table.first, {}, []
        while standing not in met:
            met[standing] = len(rows)
            news = news_list(day, standing, latest=True)[0]
            answer = table.answer(standing, news)
            rows.append((day.leaving(news[0], standing[1]), len(answer[1])))
            standing = after(day, standing, news, answer)
        rows = rows[met[standing]:]
        k, rest = divmod(len(rows), day.depot.clock.round_length)
        sent = [line for lines, _ in rows for line in lines]
        self.assertEqual(rest, 0)
        self.assertEqual([sent.count(line) for line in range(len(day.outs))], [k] * len(day.outs))
        self.assertEqual(sum(count for _, count in rows), k * sum(uses_of(day).values()))


def short_chains(day):
    """The chains of a day with the least waits, and those with one more wait somewhere."""
    for nexts in itertools.permutations(range(len(day.outs))):
        short = Chain.shortest(day, nexts)
        yield short
        for line in range(len(nexts)):
            yield Chain(day, nexts, [wait + (at == line) for at, wait in enumerate(short.waits)])


if __name__ == "__main__":
    unittest.main()
