"""Choosing times, point [70]."""

import random
import unittest

from depotday.choosing import Choice, choose
from depotday.days import Day
from depotday.depottext import read_depot
from depotday.errors import LateTie, TooMany
from depotday.islands import choices, islands
from depotday.papers import Table, decide
from helping import Case, great_day, random_depot
from test_least import check_like

PAGE = ("page day a b > day", "start day")


def depot_of(*rows):
    return read_depot("\n".join(rows))


# All rounds break it; with the latest comings the only ones do not.
EARLY = depot_of("round 5", "line a 3 7 use 1 late 3", "line b 8 8 use 2 late 2", "tie b home a out 0 2", "cable 1 3",
                 "patience 0", "vehicle a", "vehicle b", "vehicle a", "vehicle b", *PAGE)
# The third rounds are the first ones with a table.
THIRD = depot_of("round 5", "line a 1 5 use 1 late 0", "line b 2 5 use 2 late 0", "tie a out b home 0 4",
                 "tie b out a home 0 3", "cable 1 2", "patience 1", "vehicle a", "vehicle b", *PAGE)
NONE = depot_of("round 4", "line a 3 4 use 1 late 1", "line b 7 8 use 0 late 2", "tie b out b home 1 3", "cable 0 4",
                "patience 4", "vehicle b", *PAGE)
BROKEN = depot_of("round 5", "line a 6 9 use 2 late 0", "line b 5 9 use 2 late 1", "tie a home b home 0 4",
                  "tie b out a out 2 5", "cable 3 4", "patience 4", "vehicle a", *PAGE)
PLAIN = depot_of("round 3", "line a 2 2 use 1 late 1", "line b 1 1 use 0 late 0", "cable 1 2", "patience none",
                 "vehicle a", "vehicle a", "vehicle a", *PAGE)


class Choosing(Case):
    def check(self, depot, **more):
        """Point [70], rounds by rounds; the place of the rounds with a table is told, and how many were tried."""
        found = self.keeps(choose, depot, **more)
        self.assertIs(type(found), Choice)
        rows, tried = islands(depot.clock.sure_net()), []
        for row in rows:
            day = Day.of(depot, row)
            paper = decide(day, **more)
            if isinstance(paper, Table):
                self.assertEqual([found.rounds, found.day], [row, day])
                check_like(self, found.table, paper)
                break
            tried.append((row, paper))
        else:
            self.assertEqual([found.rounds, found.day, found.table], [None, None, None])
        self.assertEqual([type(found.tried), [pair[0] for pair in found.tried]], [list, [row for row, _ in tried]])
        for (_, plan), (_, wanted) in zip(found.tried, tried):
            check_like(self, plan, wanted)
        return found.rounds is not None, len(found.tried)

    def test_without_ties(self):
        self.assertEqual(self.check(PLAIN), (True, 0))
        found = choose(PLAIN)
        self.assertEqual([found.rounds, found.tried], [[], []])
        self.assertEqual(found.day, Day.of(PLAIN, []))

    def test_later_rounds(self):
        self.assertEqual(self.check(THIRD), (True, 2))
        self.assertEqual([type(pair) for pair in choose(THIRD).tried], [tuple, tuple])

    def test_no_rounds_at_all(self):
        self.assertEqual(islands(NONE.clock.sure_net()), [])
        self.assertEqual(self.check(NONE), (False, 0))

    def test_no_rounds_with_a_table(self):
        self.assertEqual(self.check(BROKEN), (False, 3))

    def test_latest(self):
        self.assertEqual([self.check(EARLY), self.check(EARLY, latest=True)], [(False, 1), (True, 0)])
        self.assertIs(choose(EARLY, latest=True).table.latest, True)
        self.assertIs(choose(EARLY).tried[0][1].latest, False)

    def test_late_ties(self):
        late = depot_of("round 5", "line a 2 3 use 1 late 1", "line b 7 8 use 2 late 2", "tie a home b out 0 3",
                        "tie a home b home 1 3", "cable 1 2", "patience 0", "vehicle a", *PAGE)
        self.refused(LateTie, [1], choose, late)
        self.refused(LateTie, [1], choose, late, most=1)

    def test_too_many_lists_of_rounds(self):
        ties = [f"tie a out b {side} 0 11" for side in ("out", "home")] + ["tie a home b home 0 11"] * 6
        depot = depot_of("round 12", "line a 12 23 use 0 late 0", "line b 12 23 use 0 late 0", *ties, "cable 0 0",
                         "patience 0", "vehicle a", *PAGE)
        count = 1
        for low, high in choices(depot.clock.sure_net()):
            count *= high - low + 1
        self.assertGreater(count, 200)
        self.refused(TooMany, [count], choose, depot, most=1)

    def test_too_many_standings(self):
        self.refused(TooMany, [1], choose, PLAIN, most=1)
        self.refused(TooMany, [2], choose, THIRD, latest=True, most=2)
        self.refused(TooMany, [2000], choose, great_day(5).depot)
        self.assertEqual(self.check(great_day(4).depot, most=1598), self.check(great_day(4).depot))

    def test_against_words(self):
        chance = random.Random(70)
        seen = {}
        for _ in range(250):
            depot = random_depot(chance, plain=True, lengths=(2, 4), lines=(2, 2), ties=(1, 3), full=2)
            for latest in (False, True):
                try:
                    key = self.check(depot, latest=latest, most=150)
                except LateTie as error:
                    self.refused(LateTie, [error.number], choose, depot, latest=latest)
                    key = LateTie
                except TooMany as error:
                    self.refused(TooMany, [error.number], choose, depot, latest=latest, most=150)
                    key = TooMany
                seen[key] = seen.get(key, 0) + 1
        for key in ((True, 0), (False, 0), (False, 1), LateTie, TooMany):
            self.assertGreater(seen.get(key, 0), 3, seen)


if __name__ == "__main__":
    unittest.main()
