"""Timetables and minutes, point [16]."""

import random
import unittest

from depotday.errors import BadTimes, UnknownSpan
from depotday.nets import Net
from depotday.timing import broken, check_times, passed
from helping import GREAT, Case, all_times, kept_times, random_net, some_nets

NET = Net(10, 3, [(0, 1, 2, 4), (1, 2, 3, 3), (0, 2, 7, 9)])
CALLS = (check_times, lambda net, times: passed(net, times, 0), lambda net, times: passed(net, times, 99), broken)


class Checking(Case):
    def test_timetables(self):
        for times in ([0, 0, 0], [9, 9, 9], (0, 5, 9), [3, 1, 2]):
            self.assertIs(check_times(NET, times), None)
        self.assertIs(check_times(Net(2, 0, []), []), None)
        self.assertIs(check_times(Net(2, 0, []), ()), None)

    def test_the_first_wrong_index_is_told(self):
        for times, place in (([10, 0, 0], 0), ([0, -1, 0], 1), ([0, 0, 10], 2), ([0, 10, -1], 1), ([], 0), ([0], 1),
                             ([0, 0], 2), ((0, 0, 0, 0), 3), ([0, 0, 0, 99], 3), ([0, 0, 0, 0, 99], 3), ([0, 99], 1),
                             ([GREAT], 0), ([0, -GREAT, 0], 1), ([0, 0, 11, 0], 2)):
            for call in CALLS:
                self.refused(BadTimes, [place], call, NET, times)
        self.refused(BadTimes, [0], check_times, Net(2, 0, []), [0])
        self.refused(BadTimes, [0], check_times, Net(2, 1, []), [2])

    def test_nothing_is_changed(self):
        self.keeps(check_times, NET, [0, 1, 2])
        self.keeps(passed, NET, [0, 1, 2], 1)
        self.keeps(broken, NET, [0, 1, 2])


class Minutes(Case):
    def test_example(self):
        self.assertEqual([passed(NET, [0, 3, 6], 0), passed(NET, [0, 3, 6], 2), broken(NET, [0, 3, 6])], [3, 16, [2]])

    def test_the_least_and_the_greatest_minutes(self):
        for least in (0, 1, 7, 9, 10, 23, 999):
            net = Net(10, 2, [(1, 0, least, least)])
            self.assertEqual([passed(net, [(least + more) % 10, 0], 0) for more in range(10)],
                             list(range(least, least + 10)))

    def test_unknown_span(self):
        for number in (-1, 3, GREAT, -GREAT):
            self.refused(UnknownSpan, [number], passed, NET, [0, 3, 6], number)
        self.refused(UnknownSpan, [0], passed, Net(5, 2, []), [0, 0], 0)

    def test_a_tuple_is_a_timetable(self):
        self.assertEqual([passed(NET, (0, 3, 6), 2), broken(NET, (0, 3, 6))], [16, [2]])

    def test_minutes_against_their_meaning(self):
        for net in some_nets(1, 60):
            for times in all_times(net)[:40]:
                for number, (start, end, least, _) in enumerate(net.spans):
                    minutes = passed(net, times, number)
                    self.assertEqual((minutes - times[end] + times[start]) % net.round_length, 0)
                    self.assertIn(minutes, range(least, least + net.round_length))

    def test_spans_that_are_not_kept(self):
        chance = random.Random(2)
        for net in [random_net(chance) for _ in range(100)]:
            kept = kept_times(net)
            for times in all_times(net)[:60]:
                numbers = [number for number, span in enumerate(net.spans) if passed(net, times, number) > span[3]]
                self.assertEqual(broken(net, times), numbers)
                self.assertEqual(broken(net, times) == [], times in kept)

    def test_no_spans(self):
        self.assertEqual(broken(Net(5, 2, []), [4, 0]), [])
        self.assertEqual(broken(Net(5, 0, []), []), [])

    def test_what_is_returned_is_new(self):
        self.fresh(lambda: broken(NET, [0, 3, 6]), lambda found: found.append(9))


if __name__ == "__main__":
    unittest.main()
