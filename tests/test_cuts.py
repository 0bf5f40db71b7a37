"""Cuts: what lines need and what the cable can give them, points [39], [40] and [43]."""

import itertools
import random
import unittest

from depotday.chains import Chain
from depotday.cuts import give, least_width, need, overdrawn
from depotday.errors import BadChain, BadNumber, UnknownLine
from helping import GREAT, Case, some_fitting_chains, with_cable
from test_outs import day_with

# Rounds of 4; the vehicle of a is home for 1 minute, that of b for 3 minutes of each round.
DAY = with_cable(day_with(4, [("a", 2, 2, 2, 1), ("b", 1, 1, 1, 0)], [0, 2, 2, 3]), 1, 3)
OWN = Chain(DAY, [0, 1], [1, 1])
CROSSED = Chain(DAY, [1, 0], [1, 1])
UNFIT = Chain(DAY, [1, 0], [0, 0])


def all_lists(chain):
    lines = range(len(chain.nexts))
    return [list(row) for number in range(len(lines) + 1) for row in itertools.combinations(lines, number)]


def give_by_words(chain, lines, width):
    """Minute by minute, what the cable gives the vehicles that stand at home; then what lines outside bring."""
    depot, length = chain.day.depot, chain.day.depot.clock.round_length
    total = 0
    for minute in range(length):
        home = 0
        for line in lines:
            begin = chain.day.outs[chain.befores[line]] + chain.day.tardy[chain.befores[line]]
            home += sum((begin + place) % length == minute for place in range(chain.stays[line]))
        total += min(home, width)
    outside = [chain.befores[line] for line in lines if chain.befores[line] not in lines]
    return total + sum(depot.cable.full - depot.clock.lines[line].use for line in outside)


def need_by_words(chain, lines):
    return sum(chain.day.depot.clock.lines[line].use for line in lines)


def overdrawn_by_words(chain, width):
    rows = [(give_by_words(chain, lines, width) - need_by_words(chain, lines), len(lines), lines)
            for lines in all_lists(chain)]
    return min(rows)[2] if min(rows)[0] < 0 else None


class NeedAndGive(Case):
    def test_need(self):
        for chain in (OWN, CROSSED):
            for lines, units in (([], 0), ([0], 2), ([1], 1), ([0, 1], 3), ([1, 0], 3), ([0, 0], 2), ([1, 0, 1, 0], 3)):
                self.assertEqual([need(chain, lines), need(chain, tuple(lines))], [units] * 2)

    def test_give(self):
        self.assertEqual([OWN.stays, CROSSED.stays], [(1, 3), (1, 3)])
        for lines, units in (([], 0), ([0], 1), ([1], 3), ([0, 1], 3), ([1, 0, 1], 3)):
            self.assertEqual(give(OWN, lines), units)
        # A line whose vehicle comes from a line outside can be brought what this one has left.
        for lines, units in (([], 0), ([0], 1 + 2), ([1], 3 + 1), ([0, 1], 3), ([1, 1], 3 + 1)):
            self.assertEqual(give(CROSSED, lines), units)

    def test_another_width(self):
        for width, own, crossed in ((0, 0, 0), (1, 3, 3), (2, 4, 4), (3, 4, 4), (5, 4, 4), (GREAT, 4, 4)):
            self.assertEqual([give(OWN, [0, 1], width=width), give(CROSSED, [0, 1], width=width)], [own, crossed])
        self.assertEqual([give(CROSSED, [0], width=0), give(CROSSED, [1], width=0)], [2, 1])
        self.assertEqual(give(OWN, [0, 1], width=None), 3)

    def test_against_words(self):
        for chain in some_fitting_chains(80):
            for lines in all_lists(chain):
                self.assertEqual(need(chain, lines), need_by_words(chain, lines))
                for width in (None, 0, 1, 2, 7):
                    found = give(chain, lines, width=width)
                    real = chain.day.depot.cable.width if width is None else width
                    self.assertEqual(found, give_by_words(chain, lines, real))

    def test_refused(self):
        for line in (2, -1, GREAT, -GREAT):
            self.refused(UnknownLine, [line], need, OWN, [0, line, 9])
            self.refused(UnknownLine, [line], give, OWN, [line, 9])
            self.refused(UnknownLine, [line], give, OWN, [0, 0, line], width=9)
        for width in (-1, -GREAT):
            self.refused(BadNumber, [width], give, OWN, [0], width=width)
            self.refused(BadNumber, [width], give, OWN, [9], width=width)
        self.refused(BadChain, ["stay", 0], need, UNFIT, [9])
        self.refused(BadChain, ["stay", 0], need, UNFIT, [])
        self.refused(BadChain, ["stay", 0], give, UNFIT, [9], width=-1)
        self.refused(BadChain, ["stay", 1], give, Chain(DAY, [0, 1], [1, 0]), [0])

    def test_nothing_is_changed(self):
        self.keeps(need, OWN, [1, 1])
        self.keeps(give, CROSSED, [1, 0], width=2)
        self.keeps(overdrawn, OWN, width=1)
        self.keeps(least_width, OWN)


class OverdrawnSets(Case):
    def test_overdrawn(self):
        for width, lines in ((0, [0, 1]), (1, [0]), (2, [0]), (9, [0]), (None, [0])):
            self.assertEqual(overdrawn(OWN, width=width), lines)
        for width, lines in ((0, [0, 1]), (1, None), (2, None), (None, None)):
            self.assertEqual(overdrawn(CROSSED, width=width), lines)

    def test_without_a_keyword_the_cable_counts(self):
        self.assertEqual([overdrawn(OWN), overdrawn(CROSSED)], [[0], None])
        wide = Chain(with_cable(DAY, 0, 3), [1, 0], [1, 1])
        self.assertEqual([overdrawn(wide), overdrawn(wide, width=1)], [[0, 1], None])

    def test_lines_that_use_nothing(self):
        chain = Chain(day_with(4, [("a", 2, 2, 0, 1), ("b", 1, 1, 0, 0)], [0, 2, 2, 3]), [0, 1], [1, 1])
        self.assertEqual([overdrawn(chain, width=width) for width in (0, 1, None)], [None] * 3)
        self.assertEqual([least_width(chain), give(chain, [0, 1], width=0), need(chain, [0, 1])], [0, 0, 0])

    def test_the_greatest_lack_goes_first_and_then_few_lines(self):
        # Each of three lines misses one unit; the one that uses nothing changes nothing.
        day = day_with(3, [(name, 2, 2, use, 0) for name, use in zip("abcd", (0, 2, 2, 2))], [0, 2] * 4)
        chain = Chain(day, [0, 1, 2, 3], [1, 1, 1, 1])
        self.assertEqual([overdrawn(chain, width=9), overdrawn(chain, width=0)], [[1, 2, 3], [1, 2, 3]])
        chain = Chain(day_with(3, [(name, 2, 2, use, 0) for name, use in zip("abc", (1, 2, 2))], [0, 2] * 3),
                      [0, 1, 2], [1, 1, 1])
        # All together miss 4 with the width 1, and a alone would be given what it needs.
        self.assertEqual([overdrawn(chain, width=1), overdrawn(chain, width=9)], [[0, 1, 2], [1, 2]])
        chain = Chain(day_with(4, [("a", 2, 2, 3, 0), ("b", 2, 2, 3, 0)], [0, 2, 2, 0]), [0, 1], [1, 1])
        self.assertEqual(overdrawn(chain, width=1), [0, 1])
        chain = Chain(day_with(3, [("a", 2, 2, 2, 0), ("b", 2, 2, 1, 0)], [0, 2, 0, 2]), [0, 1], [1, 2])
        self.assertEqual([overdrawn(chain, width=1), overdrawn(chain, width=2)], [[0], [0]])
        # Neither line alone misses anything, for each can be brought what the other has left.
        chain = Chain(day_with(3, [("a", 2, 2, 1, 0), ("b", 2, 2, 1, 0)], [0, 2, 0, 2]), [1, 0], [1, 1])
        self.assertEqual([overdrawn(chain, width=1), overdrawn(with_full(chain, 1), width=1)], [[0, 1], [0, 1]])

    def test_against_words(self):
        found = 0
        for chain in some_fitting_chains(81, 200):
            for width in (0, 1, 2, 4, 7):
                self.assertEqual(overdrawn(chain, width=width), overdrawn_by_words(chain, width))
            self.assertEqual(overdrawn(chain), overdrawn_by_words(chain, chain.day.depot.cable.width))
            found += overdrawn(chain) is not None
        self.assertTrue(20 < found < 180, found)

    def test_refused(self):
        for width in (-1, -GREAT):
            self.refused(BadNumber, [width], overdrawn, OWN, width=width)
            self.refused(BadChain, ["stay", 0], overdrawn, UNFIT, width=width)
        self.refused(BadChain, ["stay", 0], overdrawn, UNFIT)

    def test_what_is_returned_is_new(self):
        self.fresh(lambda: overdrawn(OWN), lambda lines: lines.append(9))


def with_full(chain, full):
    return Chain(with_cable(chain.day, 1, full), chain.nexts, chain.waits)


class LeastWidth(Case):
    def test_least_width(self):
        self.assertEqual([least_width(OWN), least_width(CROSSED)], [None, 1])
        day = day_with(3, [(name, 2, 2, 1, 0) for name in "abcd"], [0, 2] * 4)
        self.assertEqual(least_width(Chain(day, [0, 1, 2, 3], [1, 1, 1, 1])), 4)
        day = day_with(2, [("a", 1, 1, 6, 0)], [0, 1])
        self.assertEqual([least_width(Chain(day, [0], [wait])) for wait in (1, 2, 3, 4)], [None, None, None, 3])
        self.assertEqual([least_width(Chain(day, [0], [wait])) for wait in (5, 9)], [3, 3])

    def test_a_width_above_that_of_any_cable(self):
        day = day_with(2, [(name, 1, 1, 4, 0) for name in "abc"], [0, 1] * 3)
        chain = Chain(day, [0, 1, 2], [4, 4, 4])
        self.assertEqual([least_width(chain), overdrawn(chain, width=6), overdrawn(chain, width=5)],
                         [6, None, [0, 1, 2]])

    def test_against_trying(self):
        widths = set()
        for chain in some_fitting_chains(82, 200):
            able = [width for width in range(60) if overdrawn_by_words(chain, width) is None]
            self.assertEqual(least_width(chain), able[0] if able else None)
            widths.add(least_width(chain))
        self.assertTrue({None, 0, 1, 2} <= widths)

    def test_refused(self):
        self.refused(BadChain, ["stay", 0], least_width, UNFIT)
        self.refused(BadChain, ["stay", 1], least_width, Chain(DAY, [0, 1], [1, 0]))


class Meaning(Case):
    def test_what_is_overdrawn_cannot_be_given(self):
        """Whatever the vehicles bring and the cable gives, an overdrawn set lacks some of what it needs."""
        chance = random.Random(83)
        for chain in some_fitting_chains(84, 80):
            lines = overdrawn(chain)
            if lines is None:
                continue
            depot, length = chain.day.depot, chain.day.depot.clock.round_length
            for _ in range(20):
                left = [depot.cable.width] * length
                got = 0
                for line in chance.sample(lines, len(lines)):
                    begin = chain.home_minute(line)
                    for place in range(chain.stays[line]):
                        if left[(begin + place) % length]:
                            left[(begin + place) % length] -= 1
                            got += 1
                spare = sum(depot.cable.full - depot.clock.lines[chain.befores[line]].use
                            for line in lines if chain.befores[line] not in lines)
                self.assertLess(got + spare, need(chain, lines))

    def test_a_plain_bound(self):
        for chain in some_fitting_chains(85, 40):
            every = list(range(len(chain.nexts)))
            home = chain.home_load()
            self.assertEqual(give(chain, every, width=2), abs(home.capped(2)))


if __name__ == "__main__":
    unittest.main()
