"""Least numbers, points [68] and [69]."""

import unittest

from depotday.cuts import least_width
from depotday.days import Day
from depotday.errors import BadClock, BadRun, BrokenSpan, DepotError, TooMany, UnknownName
from depotday.games import Game
from depotday.least import Least, least, most_late
from depotday.papers import Plan, Table, decide
from depotday.ringed import ring_chain
from helping import Case, day_of, great_day, some_ringed_days, some_small_days

ROWS = ("round 3", "line a 2 2 use 1 late 1", "cable 1 2", "patience 0")
PAGE = ("page day a > day", "start day")
TWO = day_of([0, 2], *ROWS, "vehicle a", "vehicle a", *PAGE)
PAGES = ("page day a b > day", "start day")
# Patience 0 keeps a foe who lets vehicles come early, but no other one.
EARLY = day_of([0, 3, 2, 3], "round 4", "line a 1 4 use 0 late 3", "line b 1 2 use 0 late 1", "cable 1 1", "patience 0",
               "vehicle a", "vehicle a", "bar b b", *PAGES)


def one_line(line, out, home, *rows):
    return day_of([out, home], rows[0], line, *rows[1:], *PAGE)


def check_like(test, found, wanted):
    """Two tables or two plans tell the same."""
    test.assertEqual([type(found), found.day, found.told(), set(found.standings())],
                     [type(wanted), wanted.day, wanted.told(), set(wanted.standings())])


class Leasts(Case):
    def check(self, day, part, **more):
        """Point [68], number by number."""
        found = self.keeps(least, day, part, **more)
        self.assertEqual([type(found), found.part], [Least, part])
        numbers = range(1, len(day.depot.turns.vehicles) + 1) if part == "vehicles" else range(5)
        plans = []
        for number in numbers:
            paper = decide(day.changed(**{part: number}), **more)
            if isinstance(paper, Table):
                self.assertEqual(found.number, number)
                check_like(self, found.table, paper)
                break
            plans.append(paper)
        else:
            self.assertEqual([found.number, found.table], [None, None])
        self.assertEqual([type(found.plans), len(found.plans)], [list, len(plans)])
        for plan, wanted in zip(found.plans, plans):
            check_like(self, plan, wanted)
        return found.number

    def test_example(self):
        found = least(TWO, "vehicles")
        self.assertEqual([found.part, found.number, len(found.plans), found.plans[0].minutes], ["vehicles", 2, 1, 7])

    def test_vehicles(self):
        self.assertEqual(self.check(TWO, "vehicles"), 2)
        self.assertEqual(self.check(TWO.changed(vehicles=1), "vehicles"), None)
        short = one_line("line a 1 1 use 0 late 0", 0, 1, "round 3", "cable 0 0", "patience 0", "vehicle a", "vehicle a")
        self.assertEqual(self.check(short, "vehicles"), 1)
        long = one_line("line a 6 6 use 3 late 1", 2, 2, "round 3", "cable 3 4", "patience 1", *["vehicle a"] * 5)
        self.assertEqual(self.check(long, "vehicles"), 4)
        self.assertEqual(self.check(long.changed(vehicles=4), "vehicles"), 4)
        self.assertEqual(self.check(long.changed(vehicles=3), "vehicles"), None)
        all_of_them = day_of([2, 1, 0, 0], "round 4", "line a 7 8 use 0 late 0", "line b 3 5 use 0 late 1", "cable 0 3",
                             "patience 0", *[f"vehicle {name}" for name in "bbaba"], "bar a b", *PAGES)
        self.assertEqual([self.check(all_of_them, "vehicles"), self.check(all_of_them, "vehicles", latest=True)], [5, 4])

    def test_width(self):
        self.assertEqual([self.check(TWO, "width"), self.check(TWO.changed(vehicles=1), "width")], [1, None])
        # The width that the day has does not matter.
        self.assertEqual(self.check(TWO.changed(width=0), "width"), 1)
        still = one_line("line a 1 1 use 0 late 0", 0, 1, "round 3", "cable 4 0", "patience 0", "vehicle a")
        self.assertEqual(self.check(still, "width"), 0)
        wide = one_line("line a 1 2 use 3 late 0", 0, 1, "round 2", "cable 0 5", "patience 4", "vehicle a", "vehicle a")
        self.assertEqual(self.check(wide, "width"), 2)
        rest = ("vehicle a", "vehicle b", "vehicle a", "vehicle b", "bar a a", *PAGES)
        wider = day_of([0, 1, 1, 0], "round 2", "line a 1 1 use 3 late 0", "line b 1 1 use 2 late 0", "cable 4 3",
                       "patience none", *rest)
        self.assertEqual(self.check(wider, "width"), 3)
        widest = day_of([0, 1, 1, 0], "round 2", "line a 1 1 use 4 late 0", "line b 1 1 use 4 late 0", "cable 0 6",
                        "patience none", *["vehicle a"] * 5, *PAGES)
        self.assertEqual(self.check(widest, "width"), 4)

    def test_patience(self):
        self.assertEqual([self.check(TWO, "patience"), self.check(TWO.changed(vehicles=1), "patience")], [0, None])
        one = day_of([2, 1, 0, 1], "round 3", "line a 5 5 use 2 late 0", "line b 1 1 use 0 late 0", "cable 2 4",
                     "patience 0", "vehicle a", "vehicle b", "vehicle b", *PAGES)
        self.assertEqual([self.check(one, "patience"), self.check(one.changed(patience=None), "patience")], [1, 1])

    def test_latest(self):
        self.assertEqual([(self.check(EARLY, part), self.check(EARLY, part, latest=True))
                          for part in ("width", "patience", "vehicles")], [(None, 0), (1, 0), (None, 2)])
        self.assertIs(least(EARLY, "vehicles", latest=True).table.latest, True)
        self.assertIs(least(EARLY, "vehicles", latest=True).plans[0].latest, True)
        self.assertIs(least(EARLY, "patience").table.latest, False)

    def test_other_parts(self):
        for part in ("", "full", "late", "Width", "vehicle", "times"):
            self.refused(UnknownName, [part], least, TWO, part)
            self.refused(UnknownName, [part], least, TWO, part, most=1)

    def test_too_many(self):
        # More vehicles can make fewer standings.
        numbers = [len(Game(TWO.changed(vehicles=number))) for number in (1, 2)]
        self.assertEqual(numbers, [9, 5])
        self.assertEqual(least(TWO, "vehicles", most=9).number, 2)
        self.refused(TooMany, [8], least, TWO, "vehicles", most=8)
        self.refused(TooMany, [1], least, TWO, "width", most=1)
        self.refused(TooMany, [2000], least, great_day(4), "width")
        # What comes behind the first table is not tried.
        self.assertEqual(least(TWO, "width", most=len(Game(TWO.changed(width=0)))).number, 1)

    def test_against_words(self):
        seen = {}
        for day in some_small_days(680, 80):
            for part in ("width", "patience", "vehicles"):
                for latest in (False, True):
                    try:
                        number = self.check(day, part, latest=latest, most=200)
                    except TooMany:
                        self.refused(TooMany, [200], least, day, part, latest=latest, most=200)
                        continue
                    seen[(part, number)] = seen.get((part, number), 0) + 1
        for key in (("width", 0), ("width", 1), ("patience", 0), ("vehicles", 1), ("vehicles", 2), ("width", None),
                    ("patience", None), ("vehicles", None)):
            self.assertGreater(seen.get(key, 0), 1, seen)

    def test_ringed_days(self):
        """Point [88]: the least width is that of the chain, if this fits and the cable can have so much."""
        seen = {}
        for day in some_ringed_days(681, 60):
            try:
                number = least(day, "width", most=600).number
            except TooMany:
                continue
            chain = ring_chain(day)
            width = least_width(chain) if chain.fits else None
            self.assertEqual(number, None if width is None or width > 4 else width)
            seen[number] = seen.get(number, 0) + 1
        self.assertTrue(min(seen.get(number, 0) for number in (None, 0, 1)) > 1, seen)

    def test_what_is_returned_is_new(self):
        found, other = least(TWO, "vehicles"), least(TWO, "vehicles")
        found.plans.append(9)
        self.assertEqual([len(other.plans), len(least(TWO, "vehicles").plans)], [1, 1])


class MostLate(Case):
    def check(self, day, **more):
        """Point [69], number by number; what stops it is told with the number."""
        found = self.keeps(most_late, day, **more)
        self.assertEqual([type(found), found.part], [Least, "late"])
        late, table, stop = 0, None, None
        while stop is None:
            try:
                paper = decide(day.changed(late=late), **more)
            except (BadRun, BadClock, BrokenSpan) as error:
                stop = type(error)
                self.assertEqual(found.plans, [])
                continue
            if isinstance(paper, Plan):
                stop = Plan
                self.assertEqual([type(found.plans), len(found.plans)], [list, 1])
                check_like(self, found.plans[0], paper)
                continue
            late, table = late + 1, paper
        self.assertEqual(found.number, late - 1 if late else None)
        if table is None:
            self.assertIsNone(found.table)
        else:
            check_like(self, found.table, table)
        return found.number, stop

    def test_a_plan_at_once(self):
        day = one_line("line a 2 3 use 2 late 0", 0, 2, "round 3", "cable 2 4", "patience 1", "vehicle a")
        self.assertEqual(self.check(day), (None, Plan))

    def test_tables_and_then_a_plan(self):
        rest = ("patience 0", "vehicle a")
        self.assertEqual(self.check(one_line("line a 3 5 use 0 late 0", 2, 2, "round 3", "cable 2 1", *rest)), (0, Plan))
        self.assertEqual(self.check(one_line("line a 1 3 use 0 late 0", 0, 2, "round 3", "cable 0 5", *rest)), (1, Plan))
        self.assertEqual(self.check(one_line("line a 1 3 use 0 late 0", 1, 3, "round 4", "cable 3 0", *rest)), (2, Plan))

    def test_lateness_that_lines_do_not_have(self):
        rest = ("cable 1 6", "patience 4", "vehicle a", "vehicle a")
        self.assertEqual([self.check(one_line(f"line a 1 3 use 0 late {late}", 3, 0, "round 5", *rest))
                          for late in (3, 2, 1, 0)], [(0, BadRun), (1, BadRun), (2, BadRun), (3, BadRun)])

    def test_lateness_that_clocks_do_not_have(self):
        rest = ("cable 3 0", "patience 0", "vehicle a", "vehicle a")
        self.assertEqual(self.check(one_line("line a 3 3 use 0 late 1", 1, 0, "round 2", *rest)), (0, BadClock))
        self.assertEqual(self.check(one_line("line a 1 3 use 0 late 1", 2, 2, "round 3", *rest)), (1, BadClock))
        self.assertEqual(self.check(one_line("line a 3 4 use 0 late 0", 2, 0, "round 3", *rest)), (2, BadClock))

    def test_ties_that_are_not_sure(self):
        rest = ("cable 2 1", "patience 4", "vehicle a", *PAGE)
        day = day_of([3, 0], "round 6", "line a 3 5 use 0 late 1", "tie a home a out 1 4", *rest)
        self.assertEqual(self.check(day), (1, BrokenSpan))
        day = day_of([0, 0], "round 2", "line a 2 2 use 0 late 0", "tie a out a home 1 2", *rest)
        self.assertEqual(self.check(day), (0, BrokenSpan))

    def test_latest(self):
        day = day_of([3, 3, 0, 1], "round 4", "line a 4 4 use 2 late 2", "line b 1 1 use 2 late 1", "cable 3 6",
                     "patience 0", "vehicle a", "vehicle b", "vehicle b", "vehicle a", "vehicle b", "bar a b",
                     "page day a b > day", "start day")
        self.assertEqual([self.check(day)[0], self.check(day, latest=True)[0]], [0, 1])
        self.assertIs(most_late(day, latest=True).table.latest, True)

    def test_too_many(self):
        day = one_line("line a 1 3 use 0 late 0", 1, 3, "round 4", "cable 3 0", "patience 0", "vehicle a")
        sizes = [len(Game(day.changed(late=late))) for late in range(4)]
        self.assertEqual(sizes, sorted(sizes))
        self.assertEqual(most_late(day, most=sizes[3]).number, 2)
        self.refused(TooMany, [sizes[3] - 1], most_late, day, most=sizes[3] - 1)
        self.refused(TooMany, [1], most_late, day, most=1)
        self.refused(TooMany, [2000], most_late, great_day(4))

    def test_against_words(self):
        seen = {}
        for day in some_small_days(690, 150, ties=(0, 2)):
            for latest in (False, True):
                try:
                    key = self.check(day, latest=latest, most=200)
                except TooMany:
                    self.refused(TooMany, [200], most_late, day, latest=latest, most=200)
                    continue
                seen[key] = seen.get(key, 0) + 1
        self.assertGreater(len(seen), 5, seen)

    def test_the_day_is_as_it_was(self):
        day = Day(TWO.depot, TWO.times)
        most_late(day)
        self.assertEqual(day, TWO)
        self.assertTrue(issubclass(BadRun, DepotError))


if __name__ == "__main__":
    unittest.main()
