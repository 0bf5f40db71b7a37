"""Chains, points [35] to [37]."""

import itertools
import random
import unittest

from depotday.chains import Chain
from depotday.errors import BadChain, UnknownLine
from depotday.loads import Load
from depotday.nets import Net
from depotday.outs import out_load
from depotday.paths import ring_rounds
from depotday.timing import broken
from helping import GREAT, Case, random_chain, some_days
from test_outs import day_with

# Runs of 3, 1 and 9 minutes at the latest, in rounds of 4.
DAY = day_with(4, [("a", 2, 2, 1, 1), ("b", 1, 1, 2, 0), ("c", 8, 8, 0, 1)], [0, 2, 3, 0, 1, 1])
CHAIN = Chain(DAY, [1, 0, 2], [1, 0, 3])
ONE = day_with(3, [("a", 2, 2, 1, 1)], [1, 0])


def some_chains(seed, number=80, **more):
    """Chains, of which many do not fit."""
    chance = random.Random(seed)
    return [random_chain(chance, day) for day in some_days(seed, number, **more)]


class Making(Case):
    def test_attributes(self):
        self.assertEqual(set(vars(CHAIN)), {"day", "nexts", "waits", "befores", "stays"})
        self.assertEqual([CHAIN.day, CHAIN.nexts, CHAIN.waits, CHAIN.befores, CHAIN.stays],
                         [DAY, (1, 0, 2), (1, 0, 3), (1, 0, 2), (0, 0, 3)])
        self.assertEqual(Chain(DAY, (1, 2, 0), (2, 1, 9)).befores, (2, 0, 1))
        self.assertEqual(Chain(DAY, (1, 2, 0), (2, 1, 9)).stays, (-2, 4, 33))

    def test_wrong_nexts(self):
        for nexts, place in (([], 0), ([0], 1), ([0, 1], 2), ([0, 1, 2, 3], 3), ([0, 1, 2, 0], 3), ([3, 1, 2], 0),
                             ([-1, 1, 2], 0), ([0, 0, 1], 1), ([0, 1, 0], 2), ([0, GREAT, 0], 1), ([1, 0, -GREAT], 2),
                             ((2, 1, 1), 2), ([0, 1, 2, 3, 4], 3)):
            self.refused(BadChain, ["nexts", place], Chain, DAY, nexts, [0, 0, 0])
            self.refused(BadChain, ["nexts", place], Chain, DAY, nexts, [-1])
            self.refused(BadChain, ["nexts", place], Chain.shortest, DAY, nexts)

    def test_wrong_waits(self):
        for waits, place in (([], 0), ([0], 1), ([0, 1], 2), ([0, 1, 2, 3], 3), ([10, -1, 0], 0), ([0, -1, 0], 1),
                             ((0, 9, 10), 2), ([0, GREAT, 0], 1), ([0, 0, -GREAT], 2)):
            self.refused(BadChain, ["waits", place], Chain, DAY, [1, 0, 2], waits)
        self.assertEqual(Chain(DAY, [0, 1, 2], [0, 9, 9]).waits, (0, 9, 9))

    def test_stays_by_words(self):
        for chain in some_chains(60):
            day, length = chain.day, chain.day.depot.clock.round_length
            for line in range(len(day.outs)):
                before = chain.befores[line]
                self.assertEqual(chain.nexts[before], line)
                leaves = 20 * length + day.outs[line]
                comes = (20 - chain.waits[line]) * length + day.outs[before] + day.tardy[before]
                self.assertEqual(chain.stays[line], leaves - comes)

    def test_what_is_passed_is_copied(self):
        nexts, waits = [1, 0, 2], [1, 0, 3]
        chain = self.keeps(Chain, DAY, nexts, waits)
        nexts.clear()
        waits.clear()
        self.assertEqual([chain, chain.nexts, chain.waits], [CHAIN, (1, 0, 2), (1, 0, 3)])

    def test_equal(self):
        self.assertTrue(CHAIN == Chain(DAY, (1, 0, 2), (1, 0, 3)))
        self.assertFalse(CHAIN != Chain(DAY, (1, 0, 2), (1, 0, 3)))
        for other in (Chain(DAY, [0, 1, 2], [1, 0, 3]), Chain(DAY, [1, 0, 2], [1, 0, 2]),
                      Chain(DAY.turned(1), [1, 0, 2], [1, 0, 3]), DAY, (1, 0, 2)):
            self.assertFalse(CHAIN == other)
            self.assertTrue(CHAIN != other)


class Asking(Case):
    def test_fits_and_fleet(self):
        self.assertEqual([CHAIN.fits, CHAIN.fleet], [True, 4])
        for waits, fits in (([0, 0, 3], False), ([1, 0, 2], False), ([2, 0, 4], True), ([1, 0, 9], True)):
            chain = Chain(DAY, [1, 0, 2], waits)
            self.assertEqual([chain.fits, chain.fleet], [fits, sum(waits)])
        self.assertIs(Chain(ONE, [0], [1]).fits, True)
        self.assertEqual([Chain(ONE, [0], [1]).stays, Chain(ONE, [0], [0]).stays], [(0,), (-3,)])

    def test_shortest(self):
        self.assertEqual(Chain.shortest(DAY, [1, 0, 2]), CHAIN)
        self.assertEqual(Chain.shortest(DAY, (1, 2, 0)).waits, (3, 0, 1))
        for day in some_days(61, 60):
            for nexts in itertools.permutations(range(len(day.outs))):
                chain = Chain.shortest(day, list(nexts))
                self.assertTrue(chain.fits)
                self.assertEqual(chain.nexts, nexts)
                for line, wait in enumerate(chain.waits):
                    if wait:
                        fewer = list(chain.waits)
                        fewer[line] -= 1
                        self.assertFalse(Chain(day, nexts, fewer).fits)

    def test_rings(self):
        for nexts, rings, waits, fleets in (([1, 0, 2], [[0, 1], [2]], [1, 0, 3], [1, 3]),
                                            ([2, 1, 0], [[0, 2], [1]], [1, 2, 3], [4, 2]),
                                            ([2, 0, 1], [[0, 2, 1]], [1, 2, 3], [6]),
                                            ([1, 2, 0], [[0, 1, 2]], [0, 0, 0], [0]),
                                            ([0, 1, 2], [[0], [1], [2]], [9, 0, 1], [9, 0, 1])):
            chain = Chain(DAY, nexts, waits)
            self.assertEqual([chain.rings(), chain.ring_fleets()], [rings, fleets])
        four = day_with(4, [(name, 1, 1, 0, 0) for name in "abcd"], [0, 1] * 4)
        chain = Chain(four, [3, 2, 1, 0], [1, 2, 3, 4])
        self.assertEqual([chain.rings(), chain.ring_fleets()], [[[0, 3], [1, 2]], [5, 5]])

    def test_stay_load(self):
        # After line c, out at minute 1 for 9 minutes, the stay of 3 begins in minute 2.
        self.assertEqual([list(CHAIN.stay_load(line)) for line in range(3)], [[0] * 4, [0] * 4, [1, 0, 1, 1]])
        self.assertEqual(list(CHAIN.home_load()), [1, 0, 1, 1])
        self.assertEqual(list(Chain(DAY, [1, 0, 2], [3, 0, 3]).home_load()), [3, 2, 3, 3])
        self.assertEqual(list(Chain(ONE, [0], [9]).stay_load(0)), [8, 8, 8])

    def test_loads_refused(self):
        chain = Chain(DAY, [1, 2, 0], [2, 0, 1])
        self.assertEqual(chain.stays, (-2, 0, 1))
        for line in (-1, 3, GREAT, -GREAT):
            self.refused(UnknownLine, [line], chain.stay_load, line)
        self.refused(BadChain, ["stay", 0], chain.stay_load, 0)
        self.assertEqual([list(chain.stay_load(1)), list(chain.stay_load(2))], [[0] * 4, [1, 0, 0, 0]])
        for call in (chain.home_load, chain.net, chain.timetable):
            self.refused(BadChain, ["stay", 0], call)
        for waits, line in (([1, 0, 0], 2), ([0, 0, 0], 0), ([9, 0, 2], 2)):
            chain = Chain(DAY, [1, 0, 2], waits)
            for call in (chain.home_load, chain.net, chain.timetable, lambda: chain.stay_load(line)):
                self.refused(BadChain, ["stay", line], call)

    def test_net_and_timetable(self):
        self.assertEqual(CHAIN.net(), Net(4, 6, [(0, 1, 3, 3), (2, 3, 1, 1), (4, 5, 9, 9), (3, 0, 0, 3), (1, 2, 0, 3),
                                                 (5, 4, 0, 3)]))
        self.assertEqual(CHAIN.timetable(), [0, 3, 3, 0, 1, 2])
        longer = Chain(DAY, [1, 0, 2], [2, 0, 5])
        self.assertEqual([longer.stays, longer.net().spans[3:]], [(4, 0, 11), ((3, 0, 4, 7), (1, 2, 0, 3), (5, 4, 8, 11))])
        self.assertEqual(longer.timetable(), CHAIN.timetable())

    def test_what_is_returned_is_new(self):
        self.assertIs(type(CHAIN.home_load()), Load)
        self.fresh(CHAIN.rings, lambda rings: rings[0].append(9))
        self.fresh(CHAIN.rings, lambda rings: rings.append(9))
        self.fresh(CHAIN.ring_fleets, lambda fleets: fleets.append(9))
        self.fresh(CHAIN.home_load, lambda load: load.put(0, 9))
        self.fresh(lambda: CHAIN.stay_load(2), lambda load: load.put(0, 9))
        self.fresh(CHAIN.timetable, lambda times: times.append(9))
        for call in (CHAIN.rings, CHAIN.ring_fleets, CHAIN.home_load, CHAIN.net, CHAIN.timetable):
            self.keeps(call)
        self.keeps(Chain.shortest, DAY, [1, 0, 2])


class Facts(Case):
    def test_out_and_home_together_are_the_fleet(self):
        fitting = [chain for chain in some_chains(62, 150) if chain.fits]
        self.assertGreater(len(fitting), 40)
        for chain in fitting:
            length = chain.day.depot.clock.round_length
            self.assertEqual(out_load(chain.day) + chain.home_load(), Load([chain.fleet] * length))

    def test_vehicles_of_a_ring_are_its_rounds(self):
        for chain in some_chains(63, 150):
            if chain.fits:
                net, times = chain.net(), chain.timetable()
                self.assertEqual([net.round_length, net.events, broken(net, times)],
                                 [chain.day.depot.clock.round_length, 2 * len(chain.nexts), []])
                for lines, fleet in zip(chain.rings(), chain.ring_fleets()):
                    ring = [(number, 1) for line in lines for number in (line, len(chain.nexts) + chain.nexts[line])]
                    self.assertEqual(ring_rounds(net, times, ring), fleet)


if __name__ == "__main__":
    unittest.main()
