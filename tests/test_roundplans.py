"""Plans of one round, points [41] and [42]."""

import itertools
import unittest

from depotday.chains import Chain
from depotday.cuts import give, least_width, need, overdrawn
from depotday.errors import BadChain, BadMinute, BadNumber, BadPlan, Overdrawn, UnknownLine
from depotday.roundplans import RoundPlan, round_plan
from helping import GREAT, Case, some_fitting_chains, with_cable
from test_outs import day_with

# Rounds of 4; the stay before a begins in minute 1 and takes 3 minutes, that before b in minute 3 and takes 4.
DAY = with_cable(day_with(4, [("a", 3, 3, 2, 0), ("b", 1, 1, 3, 0)], [0, 3, 0, 1]), 2, 4)
CHAIN = Chain(DAY, [1, 0], [1, 2])
CHARGES, CARRIES = [[0, 1], [0, 2, 3]], [0, 0]
PLAN = RoundPlan(CHAIN, CHARGES, CARRIES)
UNFIT = Chain(DAY, [1, 0], [0, 1])


def minute_of(chain, line, place):
    before = chain.befores[line]
    return (chain.day.outs[before] + chain.day.tardy[before] + place) % chain.day.depot.clock.round_length


def check_by_words(test, plan):
    """All that point [41] asks of a plan."""
    chain, depot = plan.chain, plan.chain.day.depot
    length, full = depot.clock.round_length, depot.cable.full
    given = [0] * length
    for line, places in enumerate(plan.charges):
        use, before = depot.clock.lines[line].use, chain.befores[line]
        test.assertEqual(list(places), sorted(set(places)))
        test.assertTrue(all(0 <= place < chain.stays[line] for place in places))
        test.assertTrue(0 <= plan.carries[line] <= full - use)
        test.assertEqual(plan.carries[before] + len(places), use + plan.carries[line])
        for place in places:
            given[minute_of(chain, line, place)] += 1
    test.assertLessEqual(max(given), plan.width)


def can_be_planned(chain, width):
    """True if some choice of carries and places is a plan, by trying all of them."""
    depot = chain.day.depot
    uses = [line.use for line in depot.clock.lines]
    for carries in itertools.product(*[range(depot.cable.full - use + 1) for use in uses]):
        numbers = [use + left - carries[before] for use, left, before in zip(uses, carries, chain.befores)]
        if all(0 <= number <= stay for number, stay in zip(numbers, chain.stays)):
            rows = [itertools.combinations(range(stay), number) for number, stay in zip(numbers, chain.stays)]
            if any(fits_width(chain, charges, width) for charges in itertools.product(*rows)):
                return True
    return False


def fits_width(chain, charges, width):
    minutes = [minute_of(chain, line, place) for line, places in enumerate(charges) for place in places]
    return all(minutes.count(minute) <= width for minute in minutes)


class Making(Case):
    def test_attributes(self):
        self.assertEqual([CHAIN.stays, CHAIN.befores], [(3, 5), (1, 0)])
        self.assertEqual(vars(PLAN), {"chain": CHAIN, "charges": ((0, 1), (0, 2, 3)), "carries": (0, 0), "width": 2})
        other = RoundPlan(CHAIN, ((0, 1), [0, 2, 3]), (0, 0), width=7)
        self.assertEqual([other.charges, other.carries, other.width], [((0, 1), (0, 2, 3)), (0, 0), 7])
        self.assertEqual(RoundPlan(CHAIN, CHARGES, CARRIES, width=None).width, 2)
        check_by_words(self, PLAN)

    def test_chains_that_do_not_fit_and_widths(self):
        self.assertEqual(UNFIT.stays, (-1, 1))
        self.refused(BadChain, ["stay", 0], RoundPlan, UNFIT, [], [], width=-1)
        self.refused(BadChain, ["stay", 1], RoundPlan, Chain(DAY, [1, 0], [1, 0]), CHARGES, CARRIES)
        for width in (-1, -GREAT):
            self.refused(BadNumber, [width], RoundPlan, CHAIN, [], [], width=width)

    def test_wrong_charges(self):
        for charges, line in (([], 0), ([[0, 1]], 1), ([[0, 1], [0, 2, 3], []], 2), ([[0, 3], [9]], 0),
                              ([[-1, 0], []], 0), ([[1, 0], []], 0), ([[1, 1], []], 0), ([[0, 1], [0, 5]], 1),
                              ([[], [4, 3]], 1), (([0, 1], (GREAT,)), 1), ([[0, 1], [-GREAT]], 1),
                              ([[0, 1, 2], [0, 1, 2, 3, 4, 4]], 1), ([[0, 1], [2, 0, 3]], 1)):
            self.refused(BadPlan, ["charges", line], RoundPlan, CHAIN, charges, [], width=0)
            self.refused(BadPlan, ["charges", line], RoundPlan, CHAIN, charges, CARRIES)

    def test_wrong_carries(self):
        for carries, line in (([], 0), ([0], 1), ([0, 0, 0], 2), ([3, 0], 0), ([-1, 9], 0), ([2, 2], 1), ([0, -1], 1),
                              ((0, GREAT), 1), ([-GREAT, 0], 0)):
            self.refused(BadPlan, ["carries", line], RoundPlan, CHAIN, CHARGES, carries)
            self.refused(BadPlan, ["carries", line], RoundPlan, CHAIN, CHARGES, carries, width=0)

    def test_too_much_in_a_minute(self):
        # The minutes of the places are 1, 2, 3 before a and 3, 0, 1, 2, 3 before b.
        for charges, minute in (([[0, 1], [0, 2, 3]], 1), ([[1, 2], [1, 3, 4]], 2), ([[2], [0, 1]], 3),
                                ([[], [0, 1, 4]], 3), ([[0], [0, 4]], 3), ([[], [0, 1, 2, 3, 4]], 3)):
            self.refused(BadPlan, ["width", minute], RoundPlan, CHAIN, charges, [0, 0], width=1)
        self.refused(BadPlan, ["width", 3], RoundPlan, CHAIN, [[2], [0, 1, 4]], [0, 0])
        self.refused(BadPlan, ["width", 0], RoundPlan, CHAIN, [[0, 1], [1, 2, 3]], [0, 0], width=0)

    def test_units_that_do_not_come_out_even(self):
        for charges, carries, line in (([[0, 1], [0, 2]], [0, 0], 1), ([[0], [0, 2, 3]], [0, 0], 0),
                                       ([[0, 1], [0, 2, 3]], [1, 0], 0), ([[0, 1], [0, 2, 3]], [0, 1], 0),
                                       ([[0, 1, 2], [0, 2, 3]], [1, 0], 1), ([[], []], [0, 0], 0)):
            self.refused(BadPlan, ["units", line], RoundPlan, CHAIN, charges, carries, width=9)
        for charges, carries in (([[0, 1, 2], [0, 2]], [1, 0]), ([[0], [0, 1, 2, 3]], [0, 1]),
                                 ([[0, 1], [0, 1, 3]], [1, 1]), ([[0, 1, 2], [1, 2]], [2, 1])):
            check_by_words(self, RoundPlan(CHAIN, charges, carries, width=9))

    def test_the_first_fault_is_told(self):
        self.refused(BadPlan, ["charges", 1], RoundPlan, CHAIN, [[0, 1, 2], [9]], [9, 9], width=0)
        self.refused(BadPlan, ["carries", 0], RoundPlan, CHAIN, [[0, 1, 2], [0]], [9, 9], width=0)
        self.refused(BadPlan, ["width", 0], RoundPlan, CHAIN, [[0, 1, 2], [1]], [0, 0], width=0)
        self.refused(BadPlan, ["units", 0], RoundPlan, CHAIN, [[0, 1, 2], [1]], [0, 0], width=9)

    def test_every_try_is_judged_as_its_words_say(self):
        """All charges and carries of a small chain, at two widths."""
        day = with_cable(day_with(3, [("a", 1, 1, 1, 0), ("b", 2, 2, 0, 0)], [0, 1, 1, 0]), 1, 2)
        chain = Chain(day, [1, 0], [1, 1])
        self.assertEqual(chain.stays, (0, 3))
        rows = [itertools.chain(*[itertools.combinations(range(stay), many) for many in range(stay + 1)])
                for stay in chain.stays]
        made = 0
        for charges in itertools.product(*rows):
            for carries in itertools.product(range(3), repeat=2):
                for width in (0, 1):
                    part = self.first_fault(chain, charges, carries, width)
                    if part is not None:
                        self.refused(BadPlan, part, RoundPlan, chain, charges, carries, width=width)
                    else:
                        made += 1
                        check_by_words(self, RoundPlan(chain, charges, carries, width=width))
        self.assertGreater(made, 3)

    def first_fault(self, chain, charges, carries, width):
        uses, full = [line.use for line in chain.day.depot.clock.lines], chain.day.depot.cable.full
        for line, left in enumerate(carries):
            if left > full - uses[line]:
                return ["carries", line]
        minutes = [minute_of(chain, line, place) for line, places in enumerate(charges) for place in places]
        for minute in range(chain.day.depot.clock.round_length):
            if minutes.count(minute) > width:
                return ["width", minute]
        for line, use in enumerate(uses):
            if carries[chain.befores[line]] + len(charges[line]) != use + carries[line]:
                return ["units", line]
        return None

    def test_what_is_passed_is_copied(self):
        charges, carries = [[0, 1], [0, 2, 3]], [0, 0]
        plan = self.keeps(RoundPlan, CHAIN, charges, carries)
        charges[0].append(2)
        charges.append([])
        carries[0] = 1
        self.assertEqual([plan, plan.charges, plan.carries], [PLAN, ((0, 1), (0, 2, 3)), (0, 0)])

    def test_equal(self):
        self.assertTrue(PLAN == RoundPlan(Chain(DAY, (1, 0), (1, 2)), CHARGES, CARRIES, width=2))
        self.assertFalse(PLAN != RoundPlan(CHAIN, CHARGES, CARRIES))
        for other in (RoundPlan(CHAIN, CHARGES, CARRIES, width=3), RoundPlan(CHAIN, CHARGES, [1, 1]),
                      RoundPlan(CHAIN, [[0, 1], [0, 1, 2]], CARRIES),
                      RoundPlan(Chain(DAY, [1, 0], [1, 3]), CHARGES, CARRIES), CHAIN):
            self.assertFalse(PLAN == other)
            self.assertTrue(PLAN != other)


class Asking(Case):
    def test_at(self):
        self.assertEqual([PLAN.at(minute) for minute in range(4)],
                         [[], [(0, 0), (1, 2)], [(0, 1), (1, 3)], [(1, 0)]])
        twice = RoundPlan(CHAIN, [[0, 1], [0, 1, 4]], [0, 0])
        self.assertEqual([twice.at(3), twice.at(0)], [[(1, 0), (1, 4)], [(1, 1)]])
        for minute in (-1, 4, GREAT, -GREAT):
            self.refused(BadMinute, [minute], PLAN.at, minute)

    def test_level(self):
        plan = RoundPlan(CHAIN, [[0, 2], [1, 2, 4]], [1, 1], width=9)
        self.assertEqual([plan.level(0, place) for place in range(4)], [1, 2, 2, 3])
        self.assertEqual([plan.level(1, place) for place in range(6)], [1, 1, 2, 3, 3, 4])
        plan = RoundPlan(CHAIN, [[0, 1, 2], [1, 2]], [2, 1], width=9)
        self.assertEqual([plan.level(0, 0), plan.level(1, 0), plan.level(0, 3), plan.level(1, 5)], [1, 2, 4, 4])

    def test_level_refused(self):
        for line in (-1, 2, GREAT, -GREAT):
            self.refused(UnknownLine, [line], PLAN.level, line, 0)
            self.refused(UnknownLine, [line], PLAN.level, line, -1)
        for line, place in ((0, -1), (0, 4), (1, 6), (1, GREAT), (0, -GREAT)):
            self.refused(BadNumber, [place], PLAN.level, line, place)
        day = with_cable(day_with(2, [("a", 2, 2, 0, 0)], [1, 1]), 0, 0)
        empty = RoundPlan(Chain(day, [0], [1]), [[]], [0])
        self.assertEqual([empty.level(0, 0), empty.at(0)], [0, []])
        self.refused(BadNumber, [1], empty.level, 0, 1)

    def test_what_is_returned_is_new(self):
        self.fresh(lambda: PLAN.at(1), lambda pairs: pairs.append(9))
        self.keeps(PLAN.at, 1)
        self.keeps(PLAN.level, 1, 3)


class Planning(Case):
    def check(self, chain, width):
        lines = overdrawn(chain, width=width)
        if lines is not None:
            self.refused(Overdrawn, [tuple(lines)], round_plan, chain, width=width)
            self.assertGreater(need(chain, lines), give(chain, lines, width=width))
            return False
        plan = round_plan(chain, width=width)
        self.assertIs(type(plan), RoundPlan)
        self.assertEqual([plan.chain, plan.width], [chain, chain.day.depot.cable.width if width is None else width])
        check_by_words(self, plan)
        self.assertEqual(plan, RoundPlan(chain, plan.charges, plan.carries, width=plan.width))
        return True

    def test_a_plan_or_an_overdrawn_set(self):
        made = 0
        chains = some_fitting_chains(90, 200)
        for chain in chains:
            for width in (None, 0, 1, 2, 3, 9):
                made += self.check(chain, width)
        self.assertTrue(200 < made < 5 * len(chains), made)

    def test_at_the_least_width(self):
        for chain in some_fitting_chains(91, 100):
            width = least_width(chain)
            if width is not None:
                self.assertTrue(self.check(chain, width))
                if width > 0:
                    self.assertFalse(self.check(chain, width - 1))

    def test_by_trying_all_plans(self):
        tried = {True: 0, False: 0}
        for chain in some_fitting_chains(92, 300, lines=(1, 2), lengths=(2, 4), full=3):
            if max(chain.stays) <= 7:
                for width in (0, 1, 2):
                    able = can_be_planned(chain, width)
                    self.assertEqual(self.check(chain, width), able)
                    tried[able] += 1
        self.assertTrue(min(tried.values()) > 30, tried)

    def test_a_line_that_comes_after_itself(self):
        day = with_cable(day_with(4, [("a", 2, 2, 2, 0)], [0, 2]), 1, 6)
        plan = round_plan(Chain(day, [0], [1]))
        self.assertEqual(plan.charges, ((0, 1),))
        self.refused(Overdrawn, [(0,)], round_plan, Chain(day, [0], [1]), width=0)

    def test_one_line_must_carry_for_the_other(self):
        # The stay before a is of 1 minute, but a uses 3; b has enough time.
        day = with_cable(day_with(6, [("a", 1, 1, 3, 0), ("b", 1, 1, 0, 0)], [0, 1, 4, 5]), 1, 6)
        chain = Chain(day, [1, 0], [1, 0])
        self.assertEqual(chain.stays, (1, 3))
        plan = round_plan(chain)
        check_by_words(self, plan)
        self.assertGreaterEqual(plan.carries[1], 2)
        self.assertIn(round_plan(Chain(with_cable(day, 1, 3), [1, 0], [1, 0])).carries, ((0, 2), (0, 3)))
        self.refused(Overdrawn, [(0, 1)], round_plan, chain, width=0)

    def test_lines_that_use_nothing(self):
        day = with_cable(day_with(4, [("a", 2, 2, 0, 1), ("b", 1, 1, 0, 0)], [0, 2, 2, 3]), 0, 0)
        plan = round_plan(Chain(day, [0, 1], [1, 1]))
        self.assertEqual([plan.charges, plan.carries, plan.width], [((), ()), (0, 0), 0])

    def test_refused(self):
        self.refused(BadChain, ["stay", 0], round_plan, UNFIT, width=-1)
        self.refused(BadNumber, [-1], round_plan, CHAIN, width=-1)
        self.refused(Overdrawn, [(0, 1)], round_plan, CHAIN, width=0)
        self.keeps(round_plan, CHAIN)


if __name__ == "__main__":
    unittest.main()
