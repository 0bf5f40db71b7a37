"""Days, point [30]."""

import itertools
import random
import unittest

from depotday.books import Book
from depotday.cables import Cable
from depotday.clocks import Clock
from depotday.days import Day
from depotday.depots import Depot
from depotday.errors import (BadCable, BadDepot, BadMinute, BadRounds, BadRun, BadTimes, BadTurns, BrokenSpan, LateTie,
                             ShutRing, UnknownName, UnknownPage)
from depotday.islands import choices, earliest, islands
from depotday.lateness import late_break
from depotday.lines import Line
from depotday.timing import broken, passed
from depotday.turns import Turns
from helping import GREAT, Case, all_times, random_depot, some_days

A, B = Line("a", 2, 3, 1, 1), Line("b", 7, 8, 2, 2)
TIE = ("a", "home", "b", "out", 0, 3)
TURNS = Turns(1, ["a", "b", "b"])
BOOK = Book([("day", ["b", "a"], ["night"]), ("night", [], ["day"]), ("late", ["b"], ["day"])], ["day"])


def depot_with(*ties, lines=(A, B)):
    return Depot(Clock(5, lines, ties), Cable(1, 2), TURNS, BOOK)


DEPOT = depot_with(TIE)
DAY = Day(DEPOT, [4, 1, 3, 0])


class Making(Case):
    def test_attributes(self):
        self.assertEqual(vars(DAY), {"depot": DEPOT, "times": (4, 1, 3, 0), "outs": (4, 3), "runs": (2, 7),
                                     "tardy": (3, 9)})
        self.assertEqual(Day(DEPOT, (4, 1, 3, 0)).times, (4, 1, 3, 0))

    def test_wrong_times(self):
        for times, place in (([], 0), ([4, 1, 3], 3), ([4, 1, 3, 0, 0], 4), ([5, 1, 3, 0], 0), ([4, -1, 5, 0], 1),
                             ((4, 1, 3, GREAT), 3), ([4, 0, -GREAT, 0], 2)):
            self.refused(BadTimes, [place], Day, DEPOT, times)

    def test_broken_runs_and_ties(self):
        self.refused(BrokenSpan, [0], Day, DEPOT, [4, 4, 4, 4])
        self.refused(BrokenSpan, [0], Day, DEPOT, [4, 0, 3, 4])
        self.refused(BrokenSpan, [1], Day, DEPOT, [4, 1, 3, 4])
        self.refused(BrokenSpan, [1], Day, DEPOT, [4, 1, 1, 0])
        # The tie is not kept; then it is kept, but not sure.
        self.refused(BrokenSpan, [2], Day, DEPOT, [4, 1, 0, 2])
        self.refused(BrokenSpan, [2], Day, DEPOT, [4, 1, 1, 3])
        self.refused(BrokenSpan, [4], Day, depot_with(TIE, TIE, ("a", "out", "b", "out", 0, 3)), [4, 1, 3, 0])
        self.refused(BrokenSpan, [3], Day, depot_with(TIE, ("b", "home", "a", "out", 3, 6), TIE), [4, 1, 3, 0])
        self.refused(BrokenSpan, [1], Day, depot_with(("a", "out", "b", "out", 0, 3)), [4, 1, 3, 4])

    def test_against_words(self):
        chance = random.Random(30)
        made = 0
        for _ in range(100):
            depot = random_depot(chance, lines=(1, 2))
            net, many = depot.clock.net(), len(depot.clock.lines)
            for times in itertools.islice(all_times(net), 0, None, 11):
                missed = [number for number in broken(net, times) if number < many]
                found = None if missed else late_break(depot.clock, times)
                if missed or found:
                    self.refused(BrokenSpan, [missed[0] if missed else many + found[0]], Day, depot, times)
                    continue
                made += 1
                day = Day(depot, times)
                self.assertEqual([day.outs, day.times], [tuple(times[::2]), tuple(times)])
                self.assertEqual(day.runs, tuple(passed(net, times, line) for line in range(many)))
                self.assertEqual([late - run for late, run in zip(day.tardy, day.runs)],
                                 [line.late for line in depot.clock.lines])
        self.assertGreater(made, 100)

    def test_what_is_passed_is_copied(self):
        times = [4, 1, 3, 0]
        day = self.keeps(Day, DEPOT, times)
        times[0] = 3
        self.assertEqual([day.times, day.outs], [(4, 1, 3, 0), (4, 3)])

    def test_equal(self):
        self.assertTrue(DAY == Day(depot_with(TIE), (4, 1, 3, 0)))
        self.assertFalse(DAY != Day(depot_with(TIE), (4, 1, 3, 0)))
        for other in (Day(DEPOT, [3, 0, 2, 4]), Day(depot_with(), [4, 1, 3, 0]), DEPOT, (4, 1, 3, 0)):
            self.assertFalse(DAY == other)
            self.assertTrue(DAY != other)


class Of(Case):
    def test_the_earliest_sure_timetable(self):
        self.assertEqual(Day.of(DEPOT, []), Day(DEPOT, [0, 2, 3, 0]))
        self.assertEqual(Day.of(depot_with(), []).times, (0, 2, 0, 2))
        depot = depot_with(TIE, ("b", "home", "a", "out", 2, 6), lines=(A, Line("b", 7, 8, 2, 1)))
        self.assertEqual(choices(depot.clock.sure_net()), [(3, 4)])
        self.assertEqual([Day.of(depot, [number]).times for number in (3, 4)], [(0, 2, 3, 0), (0, 3, 1, 4)])

    def test_refused(self):
        late = ("a", "home", "b", "home", 1, 3)
        self.refused(LateTie, [1], Day.of, depot_with(TIE, late, late), [0, 0, 0, 0, 0])
        self.refused(BadRounds, [], Day.of, depot_with(), [0])
        self.refused(BadRounds, [], Day.of, depot_with(TIE, TIE), [])
        self.refused(BadRounds, [], Day.of, depot_with(TIE, TIE), [0, 0])

    def test_shut_rounds(self):
        depot = depot_with(TIE, ("b", "home", "a", "out", 2, 6), lines=(A, Line("b", 7, 8, 2, 1)))
        sure = depot.clock.sure_net()
        with self.assertRaises(ShutRing) as caught:
            Day.of(depot, [9])
        with self.assertRaises(ShutRing) as wanted:
            earliest(sure, [9])
        self.assertEqual(caught.exception.ring, wanted.exception.ring)

    def test_against_islands(self):
        chance = random.Random(31)
        made = 0
        for _ in range(80):
            depot = random_depot(chance, ties=(0, 4))
            try:
                sure = depot.clock.sure_net()
            except LateTie as error:
                self.refused(LateTie, [error.number], Day.of, depot, [])
                continue
            for numbers in islands(sure):
                made += 1
                self.assertEqual(Day.of(depot, numbers), Day(depot, earliest(sure, numbers)))
        self.assertGreater(made, 40)

    def test_nothing_is_changed(self):
        self.keeps(Day.of, depot_with(), [])


class Asking(Case):
    def test_leaving(self):
        day = Day(depot_with(), [3, 0, 3, 0])
        self.assertEqual([day.leaving(0, minute) for minute in range(5)], [(), (), (), (0, 1), ()])
        self.assertEqual([day.leaving(page, 3) for page in range(3)], [(0, 1), (), (1,)])
        self.assertEqual([DAY.leaving(page, minute) for page in (0, 2) for minute in (3, 4)], [(1,), (0,), (1,), ()])

    def test_leaving_refused(self):
        for page in (-1, 3, GREAT, -GREAT):
            self.refused(UnknownPage, [page], DAY.leaving, page, 0)
            self.refused(UnknownPage, [page], DAY.leaving, page, 5)
        for minute in (-1, 5, GREAT, -GREAT):
            self.refused(BadMinute, [minute], DAY.leaving, 0, minute)
            self.refused(BadMinute, [minute], DAY.leaving, 1, minute)

    def test_changed(self):
        self.assertEqual(DAY.changed(), DAY)
        self.assertEqual(DAY.changed(width=3, vehicles=1), Day(DEPOT.changed(width=3, vehicles=1), DAY.times))
        later = Day(depot_with(), [4, 1, 3, 0]).changed(late=1)
        self.assertEqual([later.runs, later.tardy, later.times], [(2, 7), (4, 10), (4, 1, 3, 0)])
        self.assertEqual(later.changed(late=-2).tardy, (2, 8))
        self.assertEqual(DAY.changed(late=-1).tardy, (2, 8))

    def test_changed_refused(self):
        self.refused(UnknownName, ["times"], DAY.changed, times=1, width=9)
        self.refused(BadRun, ["late"], DAY.changed, late=-2)
        self.refused(BadRun, ["late"], DAY.changed, late=2, width=9)
        self.refused(BadCable, ["width"], DAY.changed, width=5)
        self.refused(BadTurns, ["vehicles", 0], DAY.changed, vehicles=4)
        self.refused(BadDepot, ["use", 1], DAY.changed, full=1)
        # Two minutes pass on the tie, which hold out a lateness of 1 or 2, but the home event of b is late too.
        tight = Day(depot_with(("a", "home", "b", "out", 1, 3)), [4, 1, 3, 0])
        self.refused(BrokenSpan, [2], tight.changed, late=1)

    def test_turned(self):
        for minutes, times in ((0, (4, 1, 3, 0)), (1, (0, 2, 4, 1)), (-1, (3, 0, 2, 4)), (5, (4, 1, 3, 0)),
                               (-7, (2, 4, 1, 3)), (GREAT, (4, 1, 3, 0)), (-GREAT + 2, (1, 3, 0, 2)),
                               (GREAT - 1, (3, 0, 2, 4))):
            day = DAY.turned(minutes)
            self.assertEqual([day.times, day.depot, day.runs, day.tardy], [times, DEPOT, (2, 7), (3, 9)])
            self.assertEqual(day.outs, (times[0], times[2]))

    def test_turned_back(self):
        for day in some_days(32, 30):
            for minutes in (1, -3, 7):
                self.assertEqual(day.turned(minutes).turned(-minutes), day)
                self.assertEqual(day.turned(minutes).runs, day.runs)

    def test_nothing_is_changed(self):
        self.keeps(DAY.leaving, 0, 3)
        self.keeps(DAY.changed, width=2)
        self.keeps(DAY.turned, 3)


if __name__ == "__main__":
    unittest.main()
