"""Steps, paths and rings, point [17]."""

import unittest

from depotday.errors import BadPath, BadTimes, BrokenSpan
from depotday.nets import Net
from depotday.paths import is_ring, path_ends, path_minutes, ring_rounds
from depotday.timing import passed
from helping import GREAT, Case, kept_times, some_nets

# Two spans between the same events, one against them, and one that leads on.
NET = Net(5, 4, [(0, 1, 2, 4), (0, 1, 6, 8), (1, 0, 1, 4), (1, 2, 3, 3)])
TIMES = [0, 3, 1, 0]
WRONG = ([[(4, 1)], 0], [[(-1, 1)], 0], [[(0, 0)], 0], [[(0, 2)], 0], [[(0, -2)], 0], [[(0, 1), (0, 1)], 1],
         [[(0, 1), (3, 1), (0, 1)], 2], [[(0, 1), (3, -1)], 1], [[(0, 1), (9, 1), (0, 0)], 1], [[(GREAT, 1)], 0],
         [[(0, 1), (2, 1), (0, GREAT)], 2], [[(0, 1), (2, -1)], 1], [[(3, 1), (3, 1), (9, 9)], 1])
NO_RINGS = ([], [(0, 1)], [(0, 1), (3, 1)], [(0, 1), (2, 1), (0, 1)], [(3, -1)], [(0, 1), (0, -1), (1, 1)])
RINGS = ([(0, 1), (0, -1)], [(0, -1), (0, 1)], [(0, 1), (1, -1)], [(0, 1), (2, 1)], [(2, -1), (1, -1)],
         [(0, 1), (2, 1), (0, 1), (2, 1)], [(3, 1), (3, -1)], [(0, 1), (3, 1), (3, -1), (1, -1)],
         [(3, -1), (0, -1), (1, 1), (3, 1)])


def all_rings(net, most):
    """All rings of at most so many steps."""
    rows, found = [[]], []
    for _ in range(most):
        rows = [row + [(number, direction)] for row in rows for number in range(len(net.spans))
                for direction in (1, -1)]
        rows = [row for row in rows if len(row) == 1 or ends(net, row[-2])[1] == ends(net, row[-1])[0]]
        found += [row for row in rows if ends(net, row[0])[0] == ends(net, row[-1])[1]]
    return found


def ends(net, step):
    return net.spans[step[0]][:2][::step[1]]


class Paths(Case):
    def test_ends(self):
        for path, pair in (([], None), ([(0, 1)], (0, 1)), ([(0, -1)], (1, 0)), ([(0, 1), (3, 1)], (0, 2)),
                           ([(3, -1), (2, 1), (1, 1)], (2, 1)), ([(0, 1), (0, -1)], (0, 0)),
                           ([(1, 1), (0, -1), (1, 1), (3, 1), (3, -1)], (0, 1))):
            self.assertEqual(path_ends(NET, path), pair)

    def test_wrong_steps(self):
        for path, place in WRONG:
            self.refused(BadPath, [place], path_ends, NET, path)
            self.refused(BadPath, [place], path_minutes, NET, TIMES, path)
            self.refused(BadPath, [place], ring_rounds, NET, TIMES, path)
            self.assertIs(is_ring(NET, path), False)
        self.refused(BadPath, [0], path_ends, Net(5, 2, []), [(0, 1)])

    def test_rings(self):
        for ring in RINGS:
            self.assertIs(is_ring(NET, ring), True, ring)
            self.assertEqual(path_ends(NET, ring)[0], path_ends(NET, ring)[1])

    def test_paths_that_are_no_rings(self):
        for path in NO_RINGS:
            path_ends(NET, path)
            self.assertIs(is_ring(NET, path), False, path)
            self.refused(BadPath, [len(path)], ring_rounds, NET, TIMES, path)

    def test_nothing_is_changed(self):
        for path in ([(0, 1), (2, 1)], [(0, 1)], []):
            self.keeps(path_ends, NET, path)
            self.keeps(is_ring, NET, path)
            self.keeps(path_minutes, NET, TIMES, path)
        self.keeps(ring_rounds, NET, TIMES, [(0, 1), (2, 1)])


class Minutes(Case):
    def test_minutes(self):
        self.assertEqual([passed(NET, TIMES, number) for number in range(4)], [3, 8, 2, 3])
        for path, minutes in (([], 0), ([(0, 1)], 3), ([(1, 1)], 8), ([(0, -1)], -3), ([(0, 1), (3, 1)], 6),
                              ([(0, 1), (2, 1)], 5), ([(0, 1), (1, -1)], -5), ([(1, 1), (2, 1)], 10),
                              ([(0, 1), (2, 1), (0, 1), (2, 1)], 10), ([(0, 1), (0, -1)], 0)):
            self.assertEqual(path_minutes(NET, TIMES, path), minutes)

    def test_rounds(self):
        for ring, number in (([(0, 1), (2, 1)], 1), ([(0, 1), (1, -1)], -1), ([(1, 1), (2, 1)], 2),
                             ([(0, 1), (2, 1), (0, 1), (2, 1)], 2), ([(3, 1), (3, -1)], 0),
                             ([(2, -1), (1, -1)], -2)):
            self.assertEqual(ring_rounds(NET, TIMES, ring), number)

    def test_a_tuple_is_a_timetable(self):
        self.assertEqual([path_minutes(NET, tuple(TIMES), [(0, 1)]), ring_rounds(NET, tuple(TIMES), RINGS[0])], [3, 0])

    def test_rounds_are_whole(self):
        for net in some_nets(17, 40):
            for times in kept_times(net)[:3]:
                for ring in all_rings(net, 3):
                    self.assertEqual(ring_rounds(net, times, ring) * net.round_length, path_minutes(net, times, ring))

    def test_order_of_refusals(self):
        broken_times = [0, 0, 0, 0]
        for call in (path_minutes, ring_rounds):
            self.refused(BadTimes, [1], call, NET, [0, 5, 0, 0], [(9, 9)])
            self.refused(BadTimes, [3], call, NET, [0, 3, 1], [(9, 9)])
            self.refused(BadTimes, [4], call, NET, TIMES + [0], [(9, 9)])
            self.refused(BrokenSpan, [0], call, NET, broken_times, [(9, 9)])
            self.refused(BrokenSpan, [3], call, NET, [0, 3, 2, 0], [(9, 9)])
            self.refused(BrokenSpan, [0], call, NET, broken_times, [(3, 1), (3, -1)])
            self.refused(BadPath, [0], call, NET, TIMES, [(9, 9)])

    def test_the_first_broken_span(self):
        net = Net(10, 2, [(0, 1, 0, 9), (0, 1, 3, 3), (0, 1, 4, 4)])
        for minute, number in ((3, 2), (4, 1), (5, 1)):
            self.refused(BrokenSpan, [number], path_minutes, net, [0, minute], [])
            self.refused(BrokenSpan, [number], ring_rounds, net, [0, minute], [(0, 1), (0, -1)])


if __name__ == "__main__":
    unittest.main()
