"""The chain that needs the fewest vehicles, point [38]."""

import itertools
import unittest

from depotday.chains import Chain
from depotday.fewest import least_chain
from depotday.outs import out_load
from helping import Case, some_days
from test_outs import day_with


class Fewest(Case):
    def test_one_line(self):
        for run, fleet in ((1, 1), (3, 1), (4, 2), (6, 2)):
            chain = least_chain(day_with(3, [("a", run, run, 1, 0)], [2, (2 + run) % 3]))
            self.assertEqual([chain.nexts, chain.fleet, chain.fits], [(0,), fleet, True])

    def test_one_vehicle_for_two_lines(self):
        day = day_with(6, [("a", 2, 2, 1, 1), ("b", 2, 2, 1, 1)], [0, 2, 3, 5])
        self.assertEqual([least_chain(day).fleet, least_chain(day).nexts], [1, (1, 0)])
        later = day_with(6, [("a", 2, 2, 1, 1), ("b", 2, 2, 1, 2)], [0, 2, 3, 5])
        self.assertEqual(least_chain(later).fleet, 2)

    def test_least_of_all_that_fit(self):
        for day in some_days(70, 60, lines=(1, 3)):
            lines = range(len(day.outs))
            fleets = [sum(waits) for nexts in itertools.permutations(lines)
                      for waits in itertools.product(range(5), repeat=len(lines)) if Chain(day, nexts, waits).fits]
            self.assertEqual(least_chain(day).fleet, min(fleets))

    def test_the_fleet_is_out_at_once_in_some_minute(self):
        for day in some_days(71, 150):
            chain = least_chain(day)
            self.assertTrue(chain.fits)
            self.assertEqual([chain.day, chain.fleet], [day, max(out_load(day))])
            self.assertEqual(min(chain.home_load()), 0)

    def test_nothing_is_changed(self):
        self.keeps(least_chain, day_with(6, [("a", 2, 2, 1, 1), ("b", 2, 2, 1, 1)], [0, 2, 3, 5]))


if __name__ == "__main__":
    unittest.main()
