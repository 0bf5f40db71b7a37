"""Vehicles that are out, points [33] and [34]."""

import unittest

from depotday.books import Book
from depotday.cables import Cable
from depotday.clocks import Clock
from depotday.days import Day
from depotday.depots import Depot
from depotday.lines import Line
from depotday.loads import Load
from depotday.outs import out_load, peak
from depotday.turns import Turns
from helping import Case, some_days


def day_with(length, lines, times, pages=None, starts=("p",)):
    """A day without ties; by default all lines are run in every round."""
    clock = Clock(length, [Line(*line) for line in lines])
    names = [line[0] for line in lines]
    book = Book(pages or [("p", names, ["p"])], list(starts))
    return Day(Depot(clock, Cable(1, 6), Turns(0, names[:1]), book), times)


def count_out(day, walk, minute):
    """How many vehicles are out in a minute of the last round of a walk, run by run from its first page on."""
    length = day.depot.clock.round_length
    now = (len(walk) - 1) * length + minute
    count = 0
    for number, name in enumerate(walk):
        for line in day.depot.wanted(day.depot.book.index(name)):
            gone = number * length + day.outs[line]
            count += gone <= now <= gone + day.tardy[line] - 1
    return count


def greatest_by_trying(day):
    """Six rounds are enough: three lead to every page, and a run is over after three more."""
    return max(count_out(day, walk, minute) for rounds in range(1, 7) for walk in day.depot.book.walks(rounds)
               for minute in range(day.depot.clock.round_length))


class OutLoad(Case):
    def test_one_line(self):
        for run, late, counts in ((1, 0, [0, 0, 1]), (3, 0, [1, 1, 1]), (3, 1, [1, 1, 2]), (6, 2, [3, 2, 3])):
            day = day_with(3, [("a", run, run, 1, late)], [2, (2 + run) % 3])
            self.assertEqual(list(out_load(day)), counts)

    def test_several_lines(self):
        day = day_with(5, [("a", 2, 3, 1, 1), ("b", 7, 8, 2, 2)], [4, 1, 3, 0])
        self.assertEqual(list(out_load(day)), [3, 3, 1, 2, 3])

    def test_lines_that_the_book_does_not_want_count_too(self):
        day = day_with(3, [("a", 1, 1, 1, 0), ("b", 1, 1, 1, 0)], [0, 1, 0, 1], [("p", ["a"], ["p"])])
        self.assertEqual(list(out_load(day)), [2, 0, 0])

    def test_against_a_late_round(self):
        for day in some_days(50, 80, plain=True):
            length = day.depot.clock.round_length
            walk = day.depot.book.names * 8
            self.assertEqual(list(out_load(day)), [count_out(day, walk, minute) for minute in range(length)])

    def test_what_is_returned_is_new(self):
        day = day_with(3, [("a", 1, 1, 1, 0)], [0, 1])
        self.assertIs(type(out_load(day)), Load)
        self.fresh(lambda: out_load(day), lambda load: load.put(0, 9))
        self.keeps(out_load, day)


class Peak(Case):
    def check(self, day, number):
        found = peak(day)
        self.assertEqual([type(found), len(found), type(found[1])], [tuple, 3, list])
        self.assertEqual(found[0], number)
        self.assertTrue(found[1] and day.depot.book.is_walk(found[1]))
        self.assertIn(found[2], range(day.depot.clock.round_length))
        self.assertEqual(count_out(day, found[1], found[2]), number)

    def test_pages_without_lines(self):
        day = day_with(3, [("a", 1, 1, 1, 0)], [0, 1], [("p", [], ["q"]), ("q", [], ["p"])], ["p", "q"])
        self.check(day, 0)

    def test_a_run_longer_than_a_round(self):
        # A run of eight minutes that begins in the last of three minutes is out in four rounds.
        day = day_with(3, [("a", 6, 6, 1, 2)], [2, 2])
        self.check(day, 3)
        self.check(day_with(2, [("a", 4, 4, 1, 1)], [1, 1]), 3)
        self.check(day_with(2, [("a", 3, 3, 1, 1)], [1, 0]), 2)

    def test_the_runs_before_a_page_without_lines(self):
        pages = [("p", ["a"], ["q"]), ("q", [], ["p"])]
        self.check(day_with(3, [("a", 6, 6, 1, 2)], [2, 2], pages), 2)
        self.check(day_with(3, [("a", 3, 3, 1, 0)], [2, 2], pages), 1)

    def test_pages_that_no_walk_reaches(self):
        lines = [("a", 1, 1, 1, 0), ("b", 1, 1, 1, 0)]
        pages = [("p", ["a"], ["p"]), ("q", ["a", "b"], ["q"])]
        self.check(day_with(3, lines, [0, 1, 0, 1], pages), 1)
        self.check(day_with(3, lines, [0, 1, 0, 1], pages, ["p", "q"]), 2)

    def test_a_page_far_from_the_start(self):
        lines = [("a", 1, 1, 1, 0), ("b", 4, 4, 1, 2)]
        pages = [("p", [], ["q"]), ("q", [], ["r"]), ("r", ["b"], ["s"]), ("s", ["a", "b"], ["s"])]
        self.check(day_with(3, lines, [0, 1, 0, 1], pages), 3)
        self.assertGreaterEqual(len(peak(day_with(3, lines, [0, 1, 0, 1], pages))[1]), 4)

    def test_a_walk_that_begins_late_has_no_runs_before(self):
        pages = [("p", ["a"], ["q"]), ("q", ["a"], ["q"])]
        self.check(day_with(2, [("a", 2, 2, 1, 1)], [1, 1], [("p", ["a"], ["q"]), ("q", [], ["q"])]), 1)
        self.check(day_with(2, [("a", 2, 2, 1, 1)], [1, 1], pages), 2)

    def test_plain_depots(self):
        for day in some_days(51, 80, plain=True):
            self.check(day, max(out_load(day)))

    def test_against_trying(self):
        for day in some_days(52, 80, lengths=(2, 5)):
            if day.depot.book.count_walks(6) < 1000:
                self.check(day, greatest_by_trying(day))

    def test_nothing_is_changed_or_shared(self):
        day = day_with(3, [("a", 1, 1, 1, 0)], [0, 1])
        self.keeps(peak, day)
        self.fresh(lambda: peak(day)[1], lambda walk: walk.append("x"))


if __name__ == "__main__":
    unittest.main()
