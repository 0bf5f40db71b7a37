"""Depots, points [28] and [29]."""

import random
import unittest

from depotday.books import Book
from depotday.cables import Cable
from depotday.clocks import Clock
from depotday.depots import Depot
from depotday.errors import BadCable, BadClock, BadDepot, BadRun, BadTurns, UnknownLine, UnknownName, UnknownPage
from depotday.lines import Line
from depotday.turns import Turns
from helping import GREAT, Case, random_depot

A, B = Line("a", 2, 3, 1, 1), Line("b", 1, 1, 2, 0)
CLOCK = Clock(5, [A, B], [("a", "home", "b", "out", 0, 3)])
CABLE = Cable(1, 2)
TURNS = Turns(1, ["a", "b", "b"], [("b", "b"), ("a", "b")])
BOOK = Book([("day", ["b", "a"], ["night"]), ("night", [], ["night", "day"]), ("late", ["b"], ["day"])], ["day"])
DEPOT = Depot(CLOCK, CABLE, TURNS, BOOK)
DAILY = Book([("day", ["b", "a"], ["day"])], ["day"])


def ringed_by_words(depot):
    names = [line.name for line in depot.clock.lines]
    after = [[second for second in names if (first, second) not in depot.turns.bars] for first in names]
    plain = len(depot.book) == 1 and set(depot.book.lines_of(0)) == set(names)
    forced = all(len(row) == 1 for row in after) and len({row[0] for row in after}) == len(names)
    return plain and depot.turns.patience == 0 and forced


class Making(Case):
    def test_attributes(self):
        self.assertEqual(vars(DEPOT), {"clock": CLOCK, "cable": CABLE, "turns": TURNS, "book": BOOK})

    def test_uses(self):
        self.assertEqual(Depot(Clock(5, [A, Line("b", 1, 1, 6, 0)]), Cable(0, 6), TURNS, DAILY).cable.full, 6)
        self.refused(BadDepot, ["use", 1], Depot, CLOCK, Cable(1, 1), TURNS, BOOK)
        self.refused(BadDepot, ["use", 0], Depot, CLOCK, Cable(1, 0), TURNS, BOOK)

    def test_unknown_vehicles(self):
        for at, vehicles in ((0, ["c"]), (1, ["a", "c", "d"]), (4, ["a", "b", "b", "a", "ab"])):
            self.refused(BadDepot, ["vehicle", at], Depot, CLOCK, CABLE, Turns(1, vehicles), BOOK)

    def test_unknown_bars(self):
        for at, bars in ((0, [("a", "c")]), (0, [("c", "a")]), (2, [("a", "b"), ("b", "b"), ("d", "e"), ("c", "c")])):
            self.refused(BadDepot, ["bar", at], Depot, CLOCK, CABLE, Turns(1, ["a"], bars), BOOK)

    def test_unknown_lines_of_pages(self):
        self.refused(BadDepot, ["page", 0], Depot, CLOCK, CABLE, TURNS, Book([("a", ["c"], ["a"])], ["a"]))
        book = Book([("a", ["b"], ["a"]), ("b", [], ["a"]), ("c", ["a", "c"], ["a"]), ("d", ["d"], ["a"])], ["a"])
        self.refused(BadDepot, ["page", 2], Depot, CLOCK, CABLE, TURNS, book)

    def test_the_first_fault_is_told(self):
        turns, book = Turns(1, ["c"], [("c", "a")]), Book([("a", ["c"], ["a"])], ["a"])
        self.refused(BadDepot, ["use", 0], Depot, CLOCK, Cable(1, 0), turns, book)
        self.refused(BadDepot, ["vehicle", 0], Depot, CLOCK, CABLE, turns, book)
        self.refused(BadDepot, ["bar", 0], Depot, CLOCK, CABLE, Turns(1, ["a"], [("c", "a")]), book)

    def test_equal(self):
        self.assertTrue(DEPOT == Depot(Clock(5, [A, B], CLOCK.ties), Cable(1, 2), TURNS, BOOK))
        self.assertFalse(DEPOT != Depot(CLOCK, CABLE, TURNS, BOOK))
        for other in (Depot(Clock(5, [A, B]), CABLE, TURNS, BOOK), Depot(CLOCK, Cable(2, 2), TURNS, BOOK),
                      Depot(CLOCK, CABLE, Turns(1, ["a"]), BOOK), Depot(CLOCK, CABLE, TURNS, DAILY), CLOCK):
            self.assertFalse(DEPOT == other)
            self.assertTrue(DEPOT != other)


class Asking(Case):
    def test_wanted(self):
        self.assertEqual([DEPOT.wanted(page) for page in range(3)], [(0, 1), (), (1,)])
        for page in (-1, 3, GREAT, -GREAT):
            self.refused(UnknownPage, [page], DEPOT.wanted, page)

    def test_is_barred(self):
        self.assertEqual([[DEPOT.is_barred(last, line) for line in (0, 1)] for last in (-1, 0, 1)],
                         [[False, False], [False, True], [False, True]])
        for index in (2, -2, GREAT, -GREAT):
            self.refused(UnknownLine, [index], DEPOT.is_barred, index, 0)
            self.refused(UnknownLine, [index], DEPOT.is_barred, index, -9)
            self.refused(UnknownLine, [index], DEPOT.is_barred, 0, index)
            self.refused(UnknownLine, [index], DEPOT.is_barred, -1, index)
        self.refused(UnknownLine, [-1], DEPOT.is_barred, 0, -1)
        self.refused(UnknownLine, [-1], DEPOT.is_barred, -1, -1)

    def test_free(self):
        self.assertEqual([Depot(CLOCK, CABLE, Turns(patience, ["a"]), BOOK).free for patience in (None, 0, 4)],
                         [True, False, False])

    def test_plain(self):
        for pages, plain in (([("day", ["b", "a"], ["day"])], True), ([("day", ["a", "b"], ["day"])], True),
                             ([("day", ["a"], ["day"])], False), ([("day", [], ["day"])], False),
                             ([("day", ["a", "b"], ["day"]), ("p", ["a", "b"], ["day"])], False)):
            self.assertIs(Depot(CLOCK, CABLE, TURNS, Book(pages, ["day"])).plain, plain)
        one = Clock(5, [A])
        self.assertIs(Depot(one, CABLE, Turns(0, ["a"]), Book([("a", ["a"], ["a"])], ["a"])).plain, True)
        self.assertIs(Depot(one, CABLE, Turns(0, ["a"]), Book([("a", [], ["a"])], ["a"])).plain, False)

    def test_ringed(self):
        crossed, own = [("a", "a"), ("b", "b")], [("a", "b"), ("b", "a")]
        for patience, bars, book, ringed in ((0, crossed, DAILY, True), (0, own, DAILY, True),
                                             (1, own, DAILY, False), (None, own, DAILY, False),
                                             (0, own, BOOK, False), (0, [], DAILY, False),
                                             (0, own[:1], DAILY, False), (0, own + crossed, DAILY, False),
                                             (0, own + crossed[:1], DAILY, False),
                                             (0, [("a", "a"), ("b", "a")], DAILY, False)):
            self.assertIs(Depot(CLOCK, CABLE, Turns(patience, ["a"], bars), book).ringed, ringed)
        one = Book([("a", ["a"], ["a"])], ["a"])
        self.assertIs(Depot(Clock(5, [A]), CABLE, Turns(0, ["a"]), one).ringed, True)
        self.assertIs(Depot(Clock(5, [A]), CABLE, Turns(0, ["a"], [("a", "a")]), one).ringed, False)

    def test_ringed_against_words(self):
        chance = random.Random(28)
        found = 0
        for _ in range(2000):
            depot = random_depot(chance, plain=True, lines=(1, 2), ties=(0, 0))
            self.assertIs(depot.ringed, ringed_by_words(depot))
            found += depot.ringed
        self.assertGreater(found, 20)

    def test_nothing_is_changed(self):
        self.keeps(Depot, CLOCK, CABLE, TURNS, BOOK)
        self.keeps(DEPOT.wanted, 0)
        self.keeps(DEPOT.is_barred, 0, 1)
        self.keeps(DEPOT.changed, width=2, late=1, vehicles=1)


class Changing(Case):
    def test_one_number(self):
        self.assertEqual(DEPOT.changed(), DEPOT)
        self.assertIsNot(DEPOT.changed(), DEPOT)
        for width in (0, 4):
            self.assertEqual(DEPOT.changed(width=width), Depot(CLOCK, Cable(width, 2), TURNS, BOOK))
        for full in (2, 6):
            self.assertEqual(DEPOT.changed(full=full), Depot(CLOCK, Cable(1, full), TURNS, BOOK))
        for patience in (0, 4, None):
            turns = Turns(patience, TURNS.vehicles, TURNS.bars)
            self.assertEqual(DEPOT.changed(patience=patience), Depot(CLOCK, CABLE, turns, BOOK))
        free = Depot(CLOCK, CABLE, Turns(None, ["a"]), BOOK)
        self.assertEqual([free.changed(width=2).turns.patience, free.changed(patience=3).turns.patience], [None, 3])

    def test_vehicles(self):
        for number, vehicles in ((1, ("a",)), (2, ("a", "b")), (3, ("a", "b", "b"))):
            self.assertEqual(DEPOT.changed(vehicles=number), Depot(CLOCK, CABLE, Turns(1, vehicles, TURNS.bars), BOOK))
        for number in (0, -1, 4, 5, 6, GREAT, -GREAT):
            self.refused(BadTurns, ["vehicles", 0], DEPOT.changed, vehicles=number)

    def test_late(self):
        self.assertEqual(DEPOT.changed(late=0), DEPOT)
        changed = DEPOT.changed(late=2)
        self.assertEqual(changed.clock, Clock(5, [Line("a", 2, 3, 1, 3), Line("b", 1, 1, 2, 2)], CLOCK.ties))
        self.assertEqual([changed.cable, changed.turns, changed.book], [CABLE, TURNS, BOOK])
        self.assertEqual(changed.changed(late=-2), DEPOT)
        for late in (3, 4, -1, -2, GREAT, -GREAT):
            self.refused(BadRun, ["late"], DEPOT.changed, late=late)
        short = Depot(Clock(2, [Line("a", 1, 1, 0, 0), Line("b", 1, 1, 0, 1)]), CABLE, TURNS, BOOK)
        self.refused(BadClock, ["line", 1], short.changed, late=1)
        self.refused(BadRun, ["late"], short.changed, late=-1)
        self.refused(BadRun, ["late"], short.changed, late=3)

    def test_several_at_once(self):
        self.assertEqual(DEPOT.changed(late=1, vehicles=2, patience=None, full=3, width=0),
                         Depot(Clock(5, [Line("a", 2, 3, 1, 2), Line("b", 1, 1, 2, 1)], CLOCK.ties), Cable(0, 3),
                               Turns(None, ["a", "b"], TURNS.bars), BOOK))

    def test_refused_numbers(self):
        for width in (-1, 5, GREAT):
            self.refused(BadCable, ["width"], DEPOT.changed, width=width)
        for full in (-1, 7, -GREAT):
            self.refused(BadCable, ["full"], DEPOT.changed, full=full)
        for full, at in ((1, 1), (0, 0)):
            self.refused(BadDepot, ["use", at], DEPOT.changed, full=full)
        for patience in (-1, 5, GREAT):
            self.refused(BadTurns, ["patience", 0], DEPOT.changed, patience=patience)

    def test_unknown_keywords(self):
        for name in ("lines", "bars", "Width", "book", "clock", "cable", "use"):
            self.refused(UnknownName, [name], DEPOT.changed, **{name: 1})
            self.refused(UnknownName, [name], DEPOT.changed, **{"width": 9, name: 1, "other": 2})
        self.refused(UnknownName, ["z"], DEPOT.changed, late=9, z=1, a=2)

    def test_order_of_refusals(self):
        more = {"width": 5, "full": 0, "patience": 5, "vehicles": 0, "late": 3}
        self.refused(BadRun, ["late"], DEPOT.changed, **more)
        short = Depot(Clock(2, [Line("a", 1, 1, 1, 0), Line("b", 1, 1, 0, 1)]), CABLE, TURNS, BOOK)
        self.refused(BadClock, ["line", 1], short.changed, **{**more, "late": 1})
        more["late"] = 0
        self.refused(BadCable, ["width"], DEPOT.changed, **more)
        self.refused(BadCable, ["full"], DEPOT.changed, **{**more, "width": 1, "full": 7})
        more["width"] = 1
        self.refused(BadTurns, ["patience", 0], DEPOT.changed, **more)
        more["patience"] = None
        self.refused(BadTurns, ["vehicles", 0], DEPOT.changed, **more)
        more["vehicles"] = 1
        self.refused(BadDepot, ["use", 0], DEPOT.changed, **more)


if __name__ == "__main__":
    unittest.main()
