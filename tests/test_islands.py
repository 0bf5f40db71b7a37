"""Choices, earliest timetables, rings that shut out, and islands, points [20] and [21]."""

import itertools
import random
import unittest

from depotday.bases import Base, rounds
from depotday.errors import BadPath, BadRounds, ShutRing, TooMany
from depotday.islands import choices, earliest, islands, ring_range, shuts
from depotday.nets import Net
from depotday.paths import is_ring, path_minutes, ring_rounds
from depotday.timing import broken
from helping import GREAT, Case, kept_times, random_net, some_nets
from test_paths import NO_RINGS, RINGS, WRONG, NET as PATHS_NET, all_rings

NET = Net(10, 3, [(0, 1, 2, 4), (1, 2, 3, 3), (0, 2, 7, 9)])
# One base ring, of which neither 0 nor another number of rounds is possible.
TIGHT = Net(10, 2, [(0, 1, 2, 3), (0, 1, 5, 6)])


# Three events in a ring, which several spans close; each base ring has the choices 0 to 2.
WIDE = [(0, 1, 0, 9), (1, 2, 0, 9)]


def wide(number):
    """A net with so many base rings, in which only the rounds 0 are possible."""
    return Net(10, 2, [(0, 1, 0, 9)] * (number + 1))


def limits(net, ring):
    """The least and the greatest minutes of a ring, by its words."""
    spans = [(net.spans[number], direction) for number, direction in ring]
    return (sum(span[2] if way == 1 else -span[3] for span, way in spans),
            sum(span[3] if way == 1 else -span[2] for span, way in spans))


def shut_by_words(net, numbers, ring):
    share = [sum(way for number, way in ring if number == closing) for closing in Base(net).closing]
    return limits(net, ring)[1] < net.round_length * sum(part * many for part, many in zip(share, numbers))


def near_lists(net):
    """Lists of rounds within the choices and somewhat beyond them."""
    ranges = [range(low - 1, high + 2) for low, high in choices(net)]
    return [list(row) for row in itertools.islice(itertools.product(*ranges), 60)]


class Choices(Case):
    def test_example(self):
        self.assertEqual([Base(NET).rings(), choices(NET), earliest(NET, [0]), islands(NET)],
                         [[[(2, 1), (1, -1), (0, -1)]], [(0, 0)], [0, 4, 7], [[0]]])

    def test_no_choice(self):
        self.assertEqual([choices(TIGHT), islands(TIGHT)], [[(1, 0)], []])

    def test_negative_and_several_choices(self):
        self.assertEqual(choices(Net(10, 2, [(0, 1, 30, 39), (0, 1, 0, 9)])), [(-3, -3)])
        self.assertEqual(choices(Net(10, 2, [(0, 1, 0, 9), (1, 0, 20, 29)])), [(2, 3)])
        self.assertEqual(choices(Net(10, 2, [(0, 1, 1, 10), (1, 0, 20, 30 - 1)])), [(3, 3)])
        self.assertEqual(choices(Net(2, 2, [(0, 1, 998, 999), (1, 0, 998, 999)])), [(998, 999)])

    def test_without_rings(self):
        for net in (Net(5, 0, []), Net(5, 3, []), Net(5, 2, [(0, 1, 1, 2)])):
            self.assertEqual([choices(net), islands(net)], [[], [[]]])

    def test_against_their_words(self):
        for net in some_nets(30):
            for ring, (low, high) in zip(Base(net).rings(), choices(net)):
                least, most = limits(net, ring)
                self.assertTrue((low - 1) * net.round_length < least <= low * net.round_length)
                self.assertTrue(high * net.round_length <= most < (high + 1) * net.round_length)

    def test_all_pairs_are_told(self):
        for net in some_nets(31):
            self.assertEqual(len(choices(net)), len(Base(net)))
            self.assertTrue(all(type(pair) is tuple for pair in choices(net)))


class Earliest(Case):
    def test_against_all_timetables(self):
        refused = 0
        for net in some_nets(32):
            by_rounds = {}
            for times in kept_times(net):
                by_rounds.setdefault(tuple(rounds(net, times)), []).append(times)
            for numbers in near_lists(net):
                if tuple(numbers) in by_rounds:
                    self.check_earliest(net, numbers, by_rounds[tuple(numbers)])
                else:
                    self.check_shut(net, numbers)
                    refused += 1
        self.assertGreater(refused, 100)

    def check_earliest(self, net, numbers, all_of_them):
        found = earliest(net, numbers)
        self.assertIs(type(found), list)
        self.assertEqual([broken(net, found), rounds(net, found)], [[], numbers])
        for piece in net.pieces():
            self.assertEqual(found[piece[0]], 0)
            for event in piece:
                path = Base(net).path(piece[0], event)
                self.assertEqual(path_minutes(net, found, path),
                                 min(path_minutes(net, times, path) for times in all_of_them))

    def check_shut(self, net, numbers):
        with self.assertRaises(ShutRing) as caught:
            earliest(net, numbers)
        ring = caught.exception.ring
        self.assertIs(type(ring), list)
        self.assertTrue(is_ring(net, ring))
        self.assertTrue(shut_by_words(net, numbers, ring))
        self.assertIs(shuts(net, numbers, ring), True)

    def test_great_nets(self):
        chance = random.Random(33)
        kept = 0
        for _ in range(150):
            net = random_net(chance, lengths=(2, 60), events=(2, 12), spans=(0, 24))
            numbers = [chance.randint(low, high) if low <= high else low for low, high in choices(net)]
            try:
                found = earliest(net, numbers)
            except ShutRing as error:
                self.assertTrue(shut_by_words(net, numbers, error.ring))
                continue
            kept += 1
            self.assertEqual([broken(net, found), rounds(net, found)], [[], numbers])
        self.assertGreater(kept, 20)

    def test_a_late_event_behind_many_spans(self):
        net = Net(60, 12, [(at, at + 1, 999, 999) for at in range(11)])
        self.assertEqual(earliest(net, []), [at * 999 % 60 for at in range(12)])
        net = Net(60, 12, [(at + 1, at, 999, 999) for at in range(11)])
        self.assertEqual(earliest(net, []), [-at * 999 % 60 for at in range(12)])

    def test_the_least_is_not_always_what_a_tree_span_asks(self):
        net = Net(10, 3, [(0, 1, 0, 9), (1, 2, 0, 9), (0, 2, 6, 6), (1, 2, 1, 2)])
        self.assertEqual(earliest(net, [0, 0]), [0, 4, 6])

    def test_each_piece_begins_at_0(self):
        net = Net(10, 5, [(3, 1, 4, 5), (4, 2, 7, 7)])
        self.assertEqual(earliest(net, []), [0, 0, 0, 5, 3])
        self.assertEqual([earliest(Net(5, 0, []), []), earliest(Net(5, 3, []), [])], [[], [0, 0, 0]])

    def test_great_rounds(self):
        for number in (GREAT, -GREAT, 1, -1):
            self.check_shut(NET, [number])
            self.check_shut(wide(2), [0, number])

    def test_wrong_number_of_rounds(self):
        for numbers in ([], [0, 0], [0, 0, 0]):
            self.refused(BadRounds, [], earliest, NET, numbers)
            self.refused(BadRounds, [], shuts, NET, numbers, [(0, 1), (0, -1)])
            self.refused(BadRounds, [], shuts, NET, numbers, [(9, 9)])
        self.refused(BadRounds, [], earliest, Net(5, 2, []), [0])
        self.refused(BadRounds, [], shuts, Net(5, 2, []), [0], [])


class Shuts(Case):
    def test_shuts(self):
        ring = Base(NET).rings()[0]
        back = [(number, -way) for number, way in ring[::-1]]
        self.assertEqual([shuts(NET, [number], ring) for number in (-1, 0, 1)], [False, False, True])
        self.assertEqual([shuts(NET, [number], back) for number in (-1, 0, 1)], [True, False, False])
        self.assertIs(shuts(NET, [1], ring[1:] + ring[:1]), True)
        self.assertIs(shuts(NET, [1], ring * 2), True)
        self.assertIs(shuts(NET, [1], [(0, 1), (0, -1)]), False)

    def test_only_greatest_minutes_below_shut(self):
        net = Net(10, 2, [(0, 1, 0, 1), (0, 1, 10, 11)])
        self.assertEqual(choices(net), [(1, 1)])
        self.assertIs(shuts(net, [1], [(1, 1), (0, -1)]), False)
        net = Net(10, 2, [(0, 1, 0, 0), (0, 1, 10, 10)])
        self.assertEqual([shuts(net, [number], [(1, 1), (0, -1)]) for number in (0, 1, 2)], [False, False, True])

    def test_what_is_no_ring_shuts_nothing_out(self):
        for numbers in ([9, 9], [-9, -9]):
            for path in [path for path, _ in WRONG] + list(NO_RINGS):
                self.assertIs(shuts(PATHS_NET, numbers, path), False)

    def test_against_words(self):
        for net in some_nets(34, 60):
            for numbers in near_lists(net)[:6]:
                for ring in all_rings(net, 3):
                    self.assertIs(shuts(net, numbers, ring), shut_by_words(net, numbers, ring))


class Islands(Case):
    def test_against_all_timetables(self):
        for net in some_nets(35):
            try:
                found = islands(net)
            except TooMany:
                continue
            self.assertEqual(found, sorted([list(row) for row in {tuple(rounds(net, times))
                                                                  for times in kept_times(net)}]))

    def test_ring_range_against_all_timetables(self):
        nothing = 0
        for net in some_nets(36, 80):
            kept = kept_times(net)
            for ring in all_rings(net, 2) + Base(net).rings():
                try:
                    found = ring_range(net, ring)
                except TooMany:
                    continue
                numbers = [ring_rounds(net, times, ring) for times in kept]
                self.assertEqual(found, (min(numbers), max(numbers)) if numbers else None)
                nothing += found is None
        self.assertGreater(nothing, 5)

    def test_too_many(self):
        self.assertEqual([choices(wide(1)), len(islands(wide(7)))], [[(0, 0)], 1])
        net = Net(10, 3, WIDE + [(2, 0, 0, 9)] * 5)
        self.assertEqual(choices(net), [(0, 2)] * 5)
        self.refused(TooMany, [243], islands, net)
        self.refused(TooMany, [243], ring_range, net, [(0, 1), (0, -1)])
        self.refused(TooMany, [3 ** 22], islands, net.plus(*[(2, 0, 0, 9)] * 17))

    def test_exactly_as_many_as_let(self):
        net = Net(10, 3, WIDE + [(2, 0, 0, 9)] * 4)
        self.assertEqual([count_of(net), islands(net)], [81, [[0] * 4, [1] * 4, [2] * 4]])
        # Rings with 5, 5, 4 and 2 choices.
        row = [(at, at + 1, 0, 4) for at in range(5)]
        net = Net(5, 6, row + [(5, 0, 0, 4), (5, 0, 0, 4), (4, 0, 0, 3), (2, 1, 0, 4)])
        self.assertEqual(choices(net), [(0, 4), (0, 4), (0, 3), (0, 1)])
        self.assertEqual(count_of(net), 200)
        self.assertEqual(islands(net)[0], [0, 0, 0, 0])
        net = net.without(8).plus((2, 0, 0, 4))
        self.assertEqual(count_of(net), 300)
        self.refused(TooMany, [300], islands, net)

    def test_a_ring_without_a_choice_counts_0(self):
        net = Net(10, 4, WIDE + [(2, 0, 0, 9)] * 20 + [(1, 3, 2, 3)])
        shut = Net(10, 4, list(net.spans) + [(1, 3, 5, 6)])
        self.refused(TooMany, [3 ** 20], islands, net)
        self.assertEqual([islands(shut), ring_range(shut, [(0, 1), (0, -1)])], [[], None])

    def test_ring_range(self):
        self.assertEqual(ring_range(NET, Base(NET).rings()[0]), (0, 0))
        net = Net(10, 2, [(0, 1, 0, 9), (1, 0, 20, 29)])
        self.assertEqual(ring_range(net, [(0, 1), (1, 1)]), (2, 3))
        self.assertEqual(ring_range(net, [(1, -1), (0, -1)]), (-3, -2))
        self.assertEqual(ring_range(net, [(0, 1), (1, 1)] * 3), (6, 9))
        self.assertEqual(ring_range(net, [(0, 1), (0, -1)]), (0, 0))
        self.assertEqual(ring_range(Net(5, 2, [(0, 1, 1, 1)]), [(0, 1), (0, -1)]), (0, 0))
        self.assertIs(ring_range(TIGHT, [(0, 1), (0, -1)]), None)

    def test_ring_range_refused(self):
        for path, place in WRONG:
            self.refused(BadPath, [place], ring_range, PATHS_NET, path)
        for path in NO_RINGS:
            self.refused(BadPath, [len(path)], ring_range, PATHS_NET, path)
        for ring in RINGS:
            ring_range(PATHS_NET, ring)
        crowded = Net(10, 3, WIDE + [(2, 0, 0, 9)] * 5)
        self.refused(BadPath, [1], ring_range, crowded, [(0, 1)])
        self.refused(BadPath, [0], ring_range, TIGHT, [])

    def test_nothing_is_changed_or_shared(self):
        ring = Base(NET).rings()[0]
        for call, args in ((choices, [NET]), (earliest, [NET, [0]]), (shuts, [NET, [0], ring]), (islands, [NET]),
                           (ring_range, [NET, ring])):
            self.keeps(call, *args)
        self.fresh(lambda: choices(NET), lambda found: found.append(9))
        self.fresh(lambda: earliest(NET, [0]), lambda found: found.append(9))
        self.fresh(lambda: islands(NET), lambda found: found.append(9))
        self.fresh(lambda: islands(NET), lambda found: found[0].append(9))


def count_of(net):
    count = 1
    for low, high in choices(net):
        count *= max(0, high - low + 1)
    return count


if __name__ == "__main__":
    unittest.main()
