"""Clocks, their events and nets, points [23] to [25]."""

import itertools
import unittest

from depotday.clocks import Clock
from depotday.errors import BadClock, LateTie, UnknownName
from depotday.lines import Line
from depotday.nets import Net
from depotday.timing import broken
from helping import GREAT, Case, all_times, some_clocks

A, B = Line("a", 2, 3, 1, 1), Line("b", 1, 1, 0, 2)
FOUR = [A, B, Line("c", 4, 4, 0, 0), Line("d", 4, 5, 0, 0)]
TIE = ("a", "home", "b", "out", 0, 3)


class Making(Case):
    def test_attributes(self):
        clock = Clock(5, [A, B], [TIE])
        self.assertEqual([clock.round_length, clock.lines, clock.ties], [5, (A, B), (TIE,)])
        self.assertEqual(set(vars(clock)), {"round_length", "lines", "ties"})
        self.assertEqual([Clock(5, [A]).ties, Clock(5, [A], ()).ties, Clock(5, [A, B], (TIE, TIE)).ties],
                         [(), (), (TIE, TIE)])

    def test_round(self):
        for length in (2, 12):
            self.assertEqual(Clock(length, [Line("a", 1, 1, 0, 0)]).round_length, length)
        for length in (1, 0, -1, 13, GREAT, -GREAT):
            self.refused(BadClock, ["round", 0], Clock, length, [A])

    def test_number_of_lines(self):
        self.assertEqual([len(Clock(5, FOUR[:number]).lines) for number in (1, 4)], [1, 4])
        self.refused(BadClock, ["lines", 0], Clock, 5, [])
        self.refused(BadClock, ["lines", 0], Clock, 5, FOUR + [Line("e", 1, 1, 0, 0)])

    def test_lines_that_do_not_fit(self):
        for length, line in ((5, Line("c", 8, 11, 0, 0)), (5, Line("c", 2, 7, 0, 0)), (2, Line("c", 1, 1, 0, 2)),
                             (2, Line("c", 5, 5, 0, 0)), (2, Line("c", 2, 4, 0, 0)), (3, Line("c", 1, 1, 0, 3))):
            self.refused(BadClock, ["line", 0], Clock, length, [line])
            self.refused(BadClock, ["line", 1], Clock, length, [Line("a", 1, 1, 0, 0), line])
        for length, line in ((5, Line("c", 10, 10, 0, 0)), (5, Line("c", 6, 10, 0, 0)), (2, Line("c", 1, 2, 0, 1)),
                             (2, Line("c", 4, 4, 0, 0)), (12, Line("c", 13, 24, 0, 3)), (3, Line("c", 1, 1, 0, 2)),
                             (4, Line("c", 1, 4, 0, 3))):
            self.assertEqual(Clock(length, [line]).lines, (line,))

    def test_names_that_come_again(self):
        self.refused(BadClock, ["line", 1], Clock, 5, [A, A])
        self.refused(BadClock, ["line", 2], Clock, 5, [A, B, Line("a", 1, 1, 0, 0), B])

    def test_number_of_ties(self):
        self.assertEqual(len(Clock(5, [A, B], [TIE] * 8).ties), 8)
        self.refused(BadClock, ["ties", 0], Clock, 5, [A, B], [TIE] * 9)
        self.refused(BadClock, ["ties", 0], Clock, 5, [A, B], [("x",)] * 9)

    def test_ties_that_are_wrong(self):
        for tie in (("x", "home", "b", "out", 0, 3), ("a", "in", "b", "out", 0, 3), ("a", "home", "x", "out", 0, 3),
                    ("a", "home", "b", "", 0, 3), ("a", "home", "a", "home", 0, 3), ("b", "out", "b", "out", 0, 3),
                    ("a", "home", "b", "out", -1, 3), ("a", "home", "b", "out", -2, -1),
                    ("a", "home", "b", "out", 3, 2), ("a", "home", "b", "out", 0, 5),
                    ("a", "home", "b", "out", 95, 100), ("a", "home", "b", "out", 99, 100),
                    ("a", "home", "b", "out", 100, 100), ("a", "home", "b", "out", GREAT, GREAT),
                    ("a", "home", "b", "out", -GREAT, 0), ("out", "a", "b", "out", 0, 3)):
            self.refused(BadClock, ["tie", 0], Clock, 5, [A, B], [tie])
            self.refused(BadClock, ["tie", 1], Clock, 5, [A, B], (TIE, tie, TIE, tie))

    def test_ties_that_are_let(self):
        for tie in (("a", "out", "a", "home", 0, 0), ("a", "home", "a", "out", 0, 4), ("b", "home", "a", "home", 99, 99),
                    ("b", "out", "a", "out", 95, 99), ("a", "out", "b", "home", 7, 11)):
            self.assertEqual(Clock(5, [A, B], [tie]).ties, (tie,))

    def test_the_first_fault_is_told(self):
        self.refused(BadClock, ["round", 0], Clock, 1, [], [TIE] * 9)
        self.refused(BadClock, ["lines", 0], Clock, 2, [], [TIE] * 9)
        self.refused(BadClock, ["lines", 0], Clock, 2, [A] * 5, [TIE] * 9)
        self.refused(BadClock, ["line", 1], Clock, 3, [A, A], [TIE] * 9)
        self.refused(BadClock, ["line", 0], Clock, 2, [Line("a", 5, 5, 0, 0)] * 2, [("x",)])

    def test_what_is_passed_is_copied(self):
        lines, ties = [A, B], [TIE]
        clock = self.keeps(Clock, 5, lines, ties)
        lines.append(FOUR[2])
        ties.append(TIE)
        self.assertEqual([clock.lines, clock.ties], [(A, B), (TIE,)])

    def test_equal(self):
        clock = Clock(5, [A, B], [TIE])
        self.assertTrue(clock == Clock(5, [A, Line("b", 1, 1, 0, 2)], (TIE,)))
        self.assertFalse(clock != Clock(5, [A, B], [TIE]))
        for other in (Clock(6, [A, B], [TIE]), Clock(5, [B, A], [TIE]), Clock(5, [A, B]), Clock(5, [A, B], [TIE] * 2),
                      Clock(5, FOUR[:3], [TIE]), Clock(5, [A, Line("b", 1, 1, 0, 1)], [TIE])):
            self.assertFalse(clock == other)
            self.assertTrue(clock != other)
        self.assertFalse(clock == clock.net())


class Asking(Case):
    def test_index_and_event(self):
        clock = Clock(5, FOUR)
        self.assertEqual([clock.index(name) for name in "abcd"], [0, 1, 2, 3])
        self.assertEqual([clock.event(name, side) for name in "abcd" for side in ("out", "home")], list(range(8)))
        odd = Clock(5, [Line("home", 1, 1, 0, 0), Line("out", 1, 1, 0, 0)])
        self.assertEqual([odd.index("out"), odd.event("out", "home"), odd.event("home", "out")], [1, 3, 0])

    def test_unknown_names(self):
        clock = Clock(5, [A, B])
        for name in ("", "c", "ab", "A", "out"):
            self.refused(UnknownName, [name], clock.index, name)
            self.refused(UnknownName, [name], clock.event, name, "out")
            self.refused(UnknownName, [name], clock.event, name, "in")
        for side in ("", "in", "Out", "a"):
            self.refused(UnknownName, [side], clock.event, "a", side)

    def test_net(self):
        self.assertEqual(Clock(5, [A]).net(), Net(5, 2, [(0, 1, 2, 3)]))
        clock = Clock(5, [A, B], [TIE, ("b", "home", "a", "home", 95, 99), TIE, ("a", "out", "a", "home", 1, 2)])
        self.assertEqual(clock.net(), Net(5, 4, [(0, 1, 2, 3), (2, 3, 1, 1), (1, 2, 0, 3), (3, 1, 95, 99),
                                                 (1, 2, 0, 3), (0, 1, 1, 2)]))
        self.assertIsNot(clock.net(), clock.net())

    def test_sure_net(self):
        # The line a is late by up to 1, b by up to 2; out events are never late.
        clock = Clock(6, [A, B], [("a", "home", "b", "out", 0, 3), ("a", "out", "b", "home", 0, 3),
                                  ("a", "home", "b", "home", 1, 4), ("a", "out", "b", "out", 2, 2),
                                  ("b", "home", "a", "home", 7, 10), ("b", "home", "b", "out", 0, 2),
                                  ("b", "out", "b", "home", 0, 2)])
        self.assertEqual(clock.sure_net().spans[2:], ((1, 2, 1, 3), (0, 3, 0, 1), (1, 3, 2, 2), (0, 2, 2, 2),
                                                      (3, 1, 9, 9), (3, 2, 2, 2), (2, 3, 0, 0)))
        self.assertEqual(clock.sure_net().spans[:2], clock.net().spans[:2])
        self.assertEqual([clock.sure_net().round_length, clock.sure_net().events], [6, 4])
        self.assertEqual(Clock(5, FOUR).sure_net(), Clock(5, FOUR).net())

    def test_late_ties(self):
        for at, tie in enumerate((("a", "home", "b", "out", 2, 2), ("a", "home", "b", "home", 1, 3),
                                  ("a", "out", "b", "home", 0, 1), ("b", "home", "b", "out", 0, 1))):
            clock = Clock(6, [A, B], [("a", "home", "b", "out", 0, 3)] * at + [tie, tie])
            self.refused(LateTie, [at], clock.sure_net)
        self.assertEqual(Clock(6, [A, B], [("a", "home", "b", "home", 1, 4)]).sure_net().spans[2], (1, 3, 2, 2))

    def test_the_sure_net_is_kept_exactly_if_all_ties_are_sure(self):
        kept = none = 0
        for clock in some_clocks(25):
            try:
                sure = clock.sure_net()
            except LateTie as error:
                sure = None
                self.assertIn(error.number, range(len(clock.ties)))
            net = clock.net()
            for times in itertools.islice(all_times(net), 0, None, 7):
                if all(number >= len(clock.lines) for number in broken(net, times)):
                    fine = all(sure_by_words(clock, times, tie) for tie in clock.ties)
                    self.assertEqual(fine, sure is not None and not broken(sure, times))
                    kept += fine
            none += sure is None
        self.assertTrue(kept > 100 and none > 5, [kept, none])

    def test_nothing_is_changed(self):
        clock = Clock(5, [A, B], [TIE])
        self.keeps(clock.net)
        self.keeps(clock.sure_net)
        self.keeps(clock.event, "a", "home")


def lates(clock, name, side):
    return range(clock.lines[clock.index(name)].late + 1 if side == "home" else 1)


def sure_by_words(clock, times, tie):
    first, side, second, other_side, least, most = tie
    gap = times[clock.event(second, other_side)] - times[clock.event(first, side)]
    minutes = next(number for number in range(least, least + clock.round_length)
                   if (number - gap) % clock.round_length == 0)
    return all(least <= minutes - x + y <= most
               for x in lates(clock, first, side) for y in lates(clock, second, other_side))


if __name__ == "__main__":
    unittest.main()
