"""Latenesses that ties hold out, point [25]."""

import itertools
import unittest

from depotday.clocks import Clock
from depotday.errors import BadTimes, BrokenSpan, LateTie
from depotday.lateness import late_break, slack
from depotday.lines import Line
from depotday.timing import broken
from helping import GREAT, Case, all_times, some_clocks
from test_clocks import lates

EXAMPLE = Clock(5, [Line("a", 2, 2, 1, 1), Line("b", 1, 1, 0, 0)], [("a", "home", "b", "out", 0, 3)])


def kept_runs(clock):
    """Timetables of a clock that keep its runs."""
    return [times for times in itertools.islice(all_times(clock.net()), 0, None, 5)
            if all(number >= len(clock.lines) for number in broken(clock.net(), times))]


def holds(clock, times, tie, x, y):
    first, side, second, other_side, least, most = tie
    gap = times[clock.event(second, other_side)] - times[clock.event(first, side)]
    return least <= least + (gap - least) % clock.round_length - x + y <= most


def break_by_words(clock, times, more=0):
    """The first break if the lateness of every line is greater by so many minutes."""
    for index, tie in enumerate(clock.ties):
        starts, others = [len(lates(clock, *end)) + (more if end[1] == "home" else 0) for end in (tie[:2], tie[2:4])]
        for x in range(starts):
            for y in range(others):
                if not holds(clock, times, tie, x, y):
                    return index, x, y
    return None


class LateBreak(Case):
    def test_example(self):
        self.assertEqual([late_break(EXAMPLE, [0, 2, 2, 3]), late_break(EXAMPLE, [0, 2, 3, 4]),
                          slack(EXAMPLE, [0, 2, 3, 4])], [(0, 1, 0), None, 0])

    def test_no_ties(self):
        clock = Clock(5, [Line("a", 2, 3, 1, 3)])
        for times in ([0, 2], (4, 1), [4, 2]):
            self.assertEqual([late_break(clock, times), slack(clock, times)], [None, None])

    def test_a_tie_that_is_not_kept(self):
        clock = Clock(5, [Line("a", 2, 2, 1, 3), Line("b", 1, 1, 0, 3)], [("a", "home", "b", "out", 0, 2)])
        self.assertEqual(late_break(clock, [0, 2, 0, 1]), (0, 0, 0))
        self.assertEqual(late_break(clock, [0, 2, 4, 0]), (0, 3, 0))

    def test_ends_that_are_late(self):
        lines = [Line("a", 2, 2, 1, 2), Line("b", 1, 1, 0, 3)]
        for tie, times, found in ((("a", "home", "b", "out", 1, 3), [0, 2, 3, 4], (0, 1, 0)),
                                  (("a", "home", "b", "out", 1, 3), [0, 2, 5, 0], None),
                                  (("a", "out", "b", "home", 1, 3), [0, 2, 1, 2], (0, 0, 2)),
                                  (("a", "out", "b", "home", 1, 5), [0, 2, 1, 2], None),
                                  (("a", "home", "b", "home", 1, 4), [0, 2, 2, 3], (0, 1, 0)),
                                  (("a", "home", "b", "home", 0, 3), [0, 2, 3, 4], (0, 0, 2)),
                                  (("a", "home", "b", "home", 0, 5), [0, 2, 3, 4], None),
                                  (("a", "out", "b", "out", 1, 1), [0, 2, 1, 2], None),
                                  (("b", "home", "a", "home", 6, 9), [0, 2, 1, 2], (0, 1, 0))):
            self.assertEqual(late_break(Clock(6, lines, [tie]), [minute % 6 for minute in times]), found, tie)

    def test_events_of_one_line(self):
        line = Line("a", 2, 2, 1, 2)
        for tie, found in ((("a", "out", "a", "home", 2, 4), None), (("a", "out", "a", "home", 2, 3), (0, 0, 2)),
                           (("a", "home", "a", "out", 2, 4), None), (("a", "home", "a", "out", 3, 4), (0, 2, 0)),
                           (("a", "home", "a", "out", 4, 4), (0, 1, 0))):
            self.assertEqual(late_break(Clock(6, [line], [tie]), [5, 1]), found, tie)

    def test_the_first_tie_is_told(self):
        lines = [Line("a", 2, 2, 1, 1), Line("b", 1, 1, 0, 0)]
        good, wrong = ("a", "home", "b", "out", 0, 3), ("a", "home", "b", "out", 1, 3)
        self.assertEqual(late_break(Clock(5, lines, [good, wrong, wrong]), [0, 2, 3, 4]), (1, 1, 0))
        self.refused(LateTie, [1], slack, Clock(5, lines, [good, wrong, wrong]), [0, 2, 3, 4])

    def test_refused(self):
        clock = Clock(5, [Line("a", 2, 3, 1, 1), Line("b", 1, 1, 0, 0)], [("a", "home", "b", "out", 0, 0)])
        for call in (late_break, slack):
            for times, place in (([], 0), ([0, 2, 2], 3), ([0, 2, 2, 3, 4], 4), ([5, 2, 2, 3], 0), ([0, -1, 5, 3], 1),
                                 ([0, 4, GREAT, 3], 2)):
                self.refused(BadTimes, [place], call, clock, times)
            self.refused(BrokenSpan, [0], call, clock, [0, 4, 2, 0])
            self.refused(BrokenSpan, [1], call, clock, [0, 2, 3, 0])
        self.refused(LateTie, [0], slack, clock, [0, 2, 3, 4])
        self.refused(LateTie, [0], slack, clock, [0, 2, 2, 3])

    def test_against_words(self):
        found = set()
        for clock in some_clocks(40):
            for times in kept_runs(clock):
                self.assertEqual(late_break(clock, times), break_by_words(clock, times))
                found.add(late_break(clock, times))
        self.assertGreater(len(found), 8)


class Slack(Case):
    def test_no_greatest_number(self):
        lines = [Line("a", 2, 2, 1, 1), Line("b", 1, 1, 0, 0)]
        clock = Clock(5, lines, [("a", "out", "b", "out", 0, 4), ("b", "out", "a", "out", 5, 9)])
        self.assertIs(slack(clock, [0, 2, 3, 4]), None)
        clock = Clock(5, lines, [("a", "out", "b", "out", 0, 4), ("b", "out", "a", "home", 5, 9)])
        self.assertEqual(slack(clock, [0, 2, 4, 0]), 0)

    def test_the_ends_that_are_late(self):
        lines = [Line("a", 2, 2, 1, 1), Line("b", 1, 1, 0, 2)]
        for tie, number in ((("a", "home", "b", "out", 1, 11), 2), (("a", "out", "b", "home", 0, 11), 2),
                            (("a", "home", "b", "home", 0, 11), 4), (("a", "home", "b", "home", 1, 12), 3),
                            (("b", "home", "a", "home", 0, 11), 3), (("b", "home", "b", "out", 9, 20), 0)):
            self.assertEqual(slack(Clock(12, lines, [tie]), [0, 2, 6, 7]), number, tie)

    def test_a_number_that_no_line_can_have(self):
        clock = Clock(5, [Line("a", 2, 2, 1, 3)], [("a", "home", "a", "out", 20, 24)])
        self.assertEqual(slack(clock, [0, 2]), 0)
        clock = Clock(12, [Line("a", 2, 2, 1, 0)], [("a", "home", "a", "out", 0, 11)])
        self.assertEqual(slack(clock, [0, 2]), 10)

    def test_against_words(self):
        found = set()
        for clock in some_clocks(41):
            for times in kept_runs(clock):
                if break_by_words(clock, times) is None:
                    found.add(slack(clock, times))
                    self.assertEqual(slack(clock, times), slack_by_words(clock, times))
                else:
                    self.refused(LateTie, [break_by_words(clock, times)[0]], slack, clock, times)
        self.assertGreater(len(found), 3)

    def test_nothing_is_changed(self):
        self.keeps(late_break, EXAMPLE, [0, 2, 2, 3])
        self.keeps(slack, EXAMPLE, [0, 2, 3, 4])


def slack_by_words(clock, times):
    """The last number before the first one that breaks a tie; more than 30 never break one anew."""
    breaking = [more for more in range(40) if break_by_words(clock, times, more) is not None]
    return breaking[0] - 1 if breaking else None


if __name__ == "__main__":
    unittest.main()
