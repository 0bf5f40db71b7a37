"""Ringed depots, point [44]."""

import random
import unittest

from depotday.books import Book
from depotday.cables import Cable
from depotday.clocks import Clock
from depotday.cuts import overdrawn
from depotday.days import Day
from depotday.depots import Depot
from depotday.depottext import read_depot
from depotday.errors import NotRinged
from depotday.lines import Line
from depotday.ringed import ring_answer, ring_chain
from depotday.roundplans import RoundPlan
from depotday.turns import Turns
from helping import Case, random_day

TEXT = "round 3\nline a 2 2 use 1 late 1\ncable 1 2\npatience 0\nvehicle a\npage day a > day\nstart day"


def forced(nexts, vehicles, patience=0, width=1, full=4, uses=(1, 1, 1)):
    """A day of rounds of 6 with the lines a, b and c, whose turns let one line only behind each line."""
    names = "abc"[:len(nexts)]
    lines = [Line(name, 2, 2, use, at % 2) for at, (name, use) in enumerate(zip(names, uses))]
    bars = [(names[line], name) for line, after in enumerate(nexts) for at, name in enumerate(names) if at != after]
    book = Book([("p", list(names), ["p"])], ["p"])
    times = [0, 2, 3, 5, 4, 0][:2 * len(nexts)]
    return Day(Depot(Clock(6, lines), Cable(width, full), Turns(patience, list(vehicles), bars), book), times)


class RingChain(Case):
    def test_example(self):
        day = Day(read_depot(TEXT), [0, 2])
        self.assertEqual([day.runs, day.tardy, ring_chain(day).waits, ring_chain(day).stays, ring_answer(day)],
                         [(2,), (3,), (1,), (0,), ("cut", (0,))])

    def test_the_chain_that_turns_force(self):
        for nexts, vehicles, waits in (([1, 2, 0], "aabcc", (2, 2, 1)), ([2, 0, 1], "aabcc", (1, 2, 2)),
                                       ([0, 2, 1], "abbbc", (1, 1, 3)), ([1, 0], "aaaaa", (0, 5)), ([0], "a", (1,)),
                                       ([1, 0, 2], "b", (1, 0, 0))):
            chain = ring_chain(forced(nexts, vehicles))
            self.assertEqual([chain.nexts, chain.waits, chain.fleet], [tuple(nexts), waits, len(vehicles)])
            self.assertEqual(chain.day, forced(nexts, vehicles))

    def test_not_ringed(self):
        whole = forced([1, 0], "ab")
        part = Depot(whole.depot.clock, whole.depot.cable, whole.depot.turns, Book([("p", ["a"], ["p"])], ["p"]))
        for day in (forced([1, 0], "ab", patience=1), forced([1, 0], "ab", patience=None), forced([0, 0], "ab"),
                    Day(part, whole.times), Day(read_depot(TEXT.replace("patience 0", "patience none")), [0, 2]),
                    Day(read_depot(TEXT.replace("vehicle a", "vehicle a\nbar a a")), [0, 2])):
            self.refused(NotRinged, [], ring_chain, day)
            self.refused(NotRinged, [], ring_answer, day)

    def test_nothing_is_changed(self):
        self.keeps(ring_chain, forced([1, 0], "ab"))
        self.keeps(ring_answer, forced([1, 0], "ab"))


class RingAnswer(Case):
    def test_a_stay_that_is_missing(self):
        # The one vehicle runs b and then, at once and in the next round, a; the other way round it has no time.
        self.assertEqual([ring_chain(forced([1, 0], last)).stays for last in "ab"], [(-6, 7), (0, 1)])
        self.assertEqual([ring_answer(forced([1, 0], last)) for last in "ab"], [("stay", 0), ("cut", (0, 1))])
        self.assertEqual(ring_answer(forced([0, 1, 2], "ac")), ("stay", 1))
        self.assertEqual(ring_answer(forced([0, 1, 2], "ab")), ("stay", 2))
        self.assertEqual(ring_answer(forced([0, 1, 2], "a", uses=(4, 4, 4))), ("stay", 1))

    def test_an_overdrawn_set(self):
        day = forced([0, 1], "ab", uses=(1, 4))
        self.assertEqual([ring_chain(day).stays, ring_answer(day)], [(4, 3), ("cut", (1,))])
        self.assertEqual(ring_answer(forced([0, 1], "ab", width=0)), ("cut", (0, 1)))

    def test_a_plan(self):
        plan = ring_answer(forced([0, 1, 2], "abc", width=2))
        self.assertIs(type(plan), RoundPlan)
        self.assertEqual([plan.chain, plan.width], [ring_chain(forced([0, 1, 2], "abc", width=2)), 2])
        still = ring_answer(forced([0], "a", width=0, uses=(0,)))
        self.assertEqual([still.charges, still.carries, still.width], [((),), (0,), 0])

    def test_against_words(self):
        chance = random.Random(44)
        kinds = {"stay": 0, "cut": 0, "plan": 0, "none": 0}
        while min(kinds.values()) < 10:
            day = random_day(chance, plain=True, lines=(1, 2), full=2, ties=(0, 0))
            if not day.depot.ringed:
                self.refused(NotRinged, [], ring_answer, day)
                kinds["none"] += 1
                continue
            chain, found = ring_chain(day), ring_answer(day)
            lacking = [line for line, stay in enumerate(chain.stays) if stay < 0]
            if lacking:
                self.assertEqual(found, ("stay", lacking[0]))
                kinds["stay"] += 1
            elif overdrawn(chain) is not None:
                self.assertEqual(found, ("cut", tuple(overdrawn(chain))))
                kinds["cut"] += 1
            else:
                self.assertEqual([type(found), found.chain, found.width], [RoundPlan, chain, day.depot.cable.width])
                kinds["plan"] += 1


if __name__ == "__main__":
    unittest.main()
