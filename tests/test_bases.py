"""Bases, their rings, rounds and parts, points [18] and [19]."""

import random
import unittest

from depotday.bases import Base, parts, rounds
from depotday.errors import BadPath, BadTimes, BrokenSpan, UnknownEvent
from depotday.nets import Net
from depotday.paths import is_ring, path_ends, path_minutes, ring_rounds
from helping import GREAT, Case, kept_times, random_net, some_nets
from test_paths import NO_RINGS, WRONG, NET as PATHS_NET, all_rings

NET = Net(10, 6, [(1, 0, 2, 4), (1, 0, 1, 1), (2, 1, 3, 3), (0, 2, 0, 9), (4, 3, 5, 5), (2, 1, 3, 4)])


class Bases(Case):
    def test_tree_and_closing_spans(self):
        base = Base(NET)
        self.assertEqual([base.tree, base.closing, len(base)], [(0, 2, 4), (1, 3, 5), 3])
        self.assertEqual([type(base.tree), type(base.closing)], [tuple, tuple])

    def test_without_rings(self):
        for net in (Net(5, 0, []), Net(5, 3, []), Net(5, 3, [(0, 1, 1, 1), (2, 1, 1, 1)])):
            base = Base(net)
            self.assertEqual([base.tree, base.closing, len(base), base.rings()],
                             [tuple(range(len(net.spans))), (), 0, []])
        self.assertEqual([rounds(Net(5, 0, []), []), rounds(Net(5, 2, [(0, 1, 1, 1)]), [4, 0])], [[], []])
        self.assertEqual(parts(Net(5, 2, [(0, 1, 1, 1)]), [(0, 1), (0, -1)]), [])

    def test_rings(self):
        self.assertEqual(Base(NET).rings(), [[(1, 1), (0, -1)], [(3, 1), (2, 1), (0, 1)], [(5, 1), (2, -1)]])

    def test_spans_both_ways_between_two_events(self):
        base = Base(Net(5, 2, [(0, 1, 1, 1), (1, 0, 1, 1), (0, 1, 2, 2)]))
        self.assertEqual([base.tree, base.closing], [(0,), (1, 2)])
        self.assertEqual(base.rings(), [[(1, 1), (0, 1)], [(2, 1), (0, -1)]])

    def test_the_order_of_the_spans_tells_the_tree(self):
        spans = [(0, 1, 1, 1), (1, 2, 1, 1), (2, 0, 1, 1)]
        self.assertEqual(Base(Net(5, 3, spans)).closing, (2,))
        self.assertEqual(Base(Net(5, 3, spans[1:] + spans[:1])).rings(), [[(2, 1), (0, 1), (1, 1)]])

    def test_paths(self):
        base = Base(NET)
        for first, second, path in ((0, 0, []), (5, 5, []), (0, 1, [(0, -1)]), (1, 0, [(0, 1)]),
                                    (2, 0, [(2, 1), (0, 1)]), (0, 2, [(0, -1), (2, -1)]), (3, 4, [(4, -1)]),
                                    (0, 3, None), (5, 0, None), (4, 5, None)):
            self.assertEqual(base.path(first, second), path)

    def test_unknown_events(self):
        base = Base(NET)
        for event in (-1, 6, GREAT, -GREAT):
            self.refused(UnknownEvent, [event], base.path, event, 0)
            self.refused(UnknownEvent, [event], base.path, 0, event)
            self.refused(UnknownEvent, [event], base.path, event, -7)
            self.refused(UnknownEvent, [event], base.path, event, event)
        self.refused(UnknownEvent, [0], Base(Net(5, 0, [])).path, 0, 0)

    def test_against_their_meaning(self):
        chance = random.Random(18)
        for _ in range(150):
            net = random_net(chance, events=(0, 12), spans=(0, 24))
            base = Base(net)
            self.assertEqual(sorted(base.tree + base.closing), list(range(len(net.spans))))
            self.assertEqual(list(base.tree), self.tree_by_pieces(net))
            self.assertEqual([ring[0] for ring in base.rings()], [(number, 1) for number in base.closing])
            for ring in base.rings():
                self.assertTrue(is_ring(net, ring))
                self.check_way(net, base, ring[1:])
            for first in range(net.events):
                for second in range(net.events):
                    self.check_path(net, base, first, second)

    def tree_by_pieces(self, net):
        """The spans that make two pieces of the spans above them one."""
        counts = [len(Net(net.round_length, net.events, list(net.spans[:at])).pieces())
                  for at in range(len(net.spans) + 1)]
        return [at for at in range(len(net.spans)) if counts[at + 1] < counts[at]]

    def check_way(self, net, base, path):
        """The path goes along tree spans and comes to no event twice."""
        self.assertTrue(all(number in base.tree for number, _ in path))
        events = [path_ends(net, path[:at + 1])[1] for at in range(len(path))]
        self.assertEqual(len(set(events)), len(events))
        self.assertNotIn(path_ends(net, path)[0], events)

    def check_path(self, net, base, first, second):
        path = base.path(first, second)
        joined = any(first in piece and second in piece for piece in net.pieces())
        self.assertEqual(path is not None, joined)
        if first == second:
            self.assertEqual(path, [])
        elif joined:
            self.assertEqual(path_ends(net, path), (first, second))
            self.check_way(net, base, path)

    def test_what_is_returned_is_new(self):
        base = Base(NET)
        self.fresh(base.rings, lambda rings: rings.append(9))
        self.fresh(base.rings, lambda rings: rings[0].append(9))
        self.fresh(lambda: base.path(0, 2), lambda path: path.append(9))
        self.fresh(lambda: base.path(0, 0), lambda path: path.append(9))
        self.keeps(base.rings)
        self.keeps(base.path, 0, 2)

    def test_two_are_not_equal(self):
        self.assertFalse(Base(NET) == Base(NET))


class RoundsAndParts(Case):
    def test_rounds(self):
        net = Net(5, 3, [(0, 1, 2, 4), (0, 1, 6, 8), (1, 0, 1, 4), (1, 2, 3, 3)])
        self.assertEqual([rounds(net, [0, 3, 1]), rounds(net, (0, 3, 1))], [[1, 1]] * 2)
        net = Net(5, 2, [(0, 1, 0, 4), (1, 0, 0, 4), (0, 1, 20, 24)])
        self.assertEqual([rounds(net, [2, 2]), rounds(net, [4, 2])], [[0, 4], [1, 4]])

    def test_rounds_refused(self):
        net = Net(10, 2, [(0, 1, 3, 5), (0, 1, 4, 4)])
        for times, place in (([0], 1), ([0, 10], 1), ([-1, 10], 0), ([0, 4, 0], 2), ([], 0)):
            self.refused(BadTimes, [place], rounds, net, times)
        self.refused(BrokenSpan, [0], rounds, net, [0, 6])
        self.refused(BrokenSpan, [1], rounds, net, [0, 5])
        self.assertEqual(rounds(net, [0, 4]), [0])

    def test_rounds_against_rings(self):
        for net in some_nets(19):
            for times in kept_times(net)[:5]:
                self.assertEqual(rounds(net, times), [ring_rounds(net, times, ring) for ring in Base(net).rings()])

    def test_parts(self):
        for ring, shares in (([(1, 1), (0, -1)], [1, 0, 0]), ([(0, 1), (1, -1)], [-1, 0, 0]),
                             ([(0, 1), (0, -1)], [0, 0, 0]), ([(1, 1), (0, -1), (1, 1), (0, -1)], [2, 0, 0]),
                             ([(3, 1), (5, 1), (1, 1)], [1, 1, 1]), ([(4, 1), (4, -1)], [0, 0, 0]),
                             ([(1, -1), (5, -1), (3, -1)], [-1, -1, -1]), ([(1, 1), (1, -1)], [0, 0, 0])):
            self.assertEqual(parts(NET, ring), shares)

    def test_parts_of_base_rings(self):
        for net in some_nets(20):
            rings = Base(net).rings()
            for at, ring in enumerate(rings):
                self.assertEqual(parts(net, ring), [int(at == other) for other in range(len(rings))])

    def test_parts_refused(self):
        for path, place in WRONG:
            self.refused(BadPath, [place], parts, PATHS_NET, path)
        for path in NO_RINGS:
            self.refused(BadPath, [len(path)], parts, PATHS_NET, path)

    def test_any_ring_is_made_of_base_rings(self):
        for net in some_nets(21, 40):
            for times in kept_times(net)[:2]:
                base = rounds(net, times)
                for ring in all_rings(net, 3):
                    self.assertEqual(sum(part * number for part, number in zip(parts(net, ring), base)),
                                     ring_rounds(net, times, ring))
                    self.assertEqual(path_minutes(net, times, ring) % net.round_length, 0)

    def test_nothing_is_changed_or_shared(self):
        net = Net(10, 2, [(0, 1, 3, 5), (0, 1, 4, 4)])
        self.keeps(Base, net)
        self.keeps(rounds, net, [0, 4])
        self.keeps(parts, net, [(1, 1), (0, -1)])
        self.fresh(lambda: rounds(net, [0, 4]), lambda found: found.append(9))
        self.fresh(lambda: parts(net, [(1, 1), (0, -1)]), lambda found: found.append(9))


if __name__ == "__main__":
    unittest.main()
