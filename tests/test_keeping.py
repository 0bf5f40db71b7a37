"""Keepers by a plan of one round, point [63]."""

import unittest

from depotday.answering import after, answers
from depotday.chains import Chain
from depotday.errors import NoNews, NotRinged
from depotday.keeping import keep_round
from depotday.papers import Table, decide
from depotday.ringed import ring_answer, ring_chain
from depotday.roundplans import RoundPlan, round_plan
from depotday.standings import first_standing, news_list, queue_after
from helping import Case, day_of, some_ringed_days

PAGE = ("page p a b > p", "start p")
# The runs take 4 and 2 minutes at the latest, in rounds of 4; a vehicle runs a and b in turn.
ROWS = ("round 4", "line a 3 3 use 2 late 1", "line b 1 1 use 1 late 1", "cable 1 3")
TIMES, TURN = [0, 3, 1, 2], ("bar a a", "bar b b")


def alternating(vehicles, *rows, patience=0, cable="cable 1 3", bars=TURN):
    return day_of(TIMES, *ROWS[:3], cable, f"patience {patience}", *[f"vehicle {name}" for name in vehicles], *bars,
                  *(rows or PAGE))


DAY = alternating("aabb")
CHAIN = ring_chain(DAY)


def answer_by_words(plan, standing, news):
    """Point [63], vehicle by vehicle."""
    day = plan.chain.day
    depot, length = day.depot, day.depot.clock.round_length
    queue, minute = queue_after(day, standing, news), standing[1]
    own = [[line for line in range(len(day.outs)) if not depot.is_barred(last, line)][0] for _, last, _ in queue]
    sent = []
    for line in day.leaving(news[0], minute):
        if line not in own or queue[own.index(line)][0] < depot.clock.lines[line].use:
            return None
        sent.append(own.index(line))
    able = [at for at, (units, _, _) in enumerate(queue) if at not in sent and units < depot.cable.full]
    due = []
    for at in able:
        line, k = own[at], sum(own[other] == own[at] for other in range(at) if other not in sent)
        d = min(d for d in range(1, length + 1) if (minute + d) % length == day.outs[line])
        if plan.chain.stays[line] - d - k * length in plan.charges[line]:
            due.append(at)
    for at in able:
        if at not in due and len(due) < min(len(able), depot.cable.width):
            due.append(at)
    return tuple(sent), tuple(sorted(due))


def standings_kept(test, plan, latest=False):
    """Every standing to which the first one leads through any news and the results."""
    day, seen = plan.chain.day, set()
    waiting = [first_standing(day)]
    while waiting:
        standing = waiting.pop()
        if standing not in seen:
            seen.add(standing)
            for news in news_list(day, standing, latest=latest):
                answer = test.keeps(keep_round, plan, standing, news)
                test.assertEqual(answer, answer_by_words(plan, standing, news))
                test.assertIn(answer, answers(day, standing, news))
                waiting.append(after(day, standing, news, answer))
    return seen


class Keeping(Case):
    def test_the_day(self):
        self.assertEqual([DAY.depot.ringed, CHAIN.nexts, CHAIN.waits, CHAIN.stays], [True, (1, 0), (2, 2), (5, 5)])
        plan = ring_answer(DAY)
        self.assertIs(type(plan), RoundPlan)
        self.assertGreater(len(standings_kept(self, plan)), 10)

    def test_one_round_keeps_ringed_days(self):
        kept = 0
        for day in some_ringed_days(63, 150):
            plan = ring_answer(day)
            if isinstance(plan, RoundPlan) and len(day.depot.turns.vehicles) < 5:
                kept += 1
                standings_kept(self, plan)
                self.assertIs(type(decide(day)), Table)
        self.assertGreater(kept, 20)

    def test_any_plan_will_do(self):
        # The units of a can be given early or late, and in place of those of b or beside them.
        for charges, carries in (([[0, 1], [1]], [0, 0]), ([[1, 4], [2]], [0, 0]), ([[3, 4], [4]], [1, 1])):
            standings_kept(self, RoundPlan(CHAIN, charges, carries))

    def test_who_is_due_comes_first(self):
        plan = RoundPlan(CHAIN, [[0, 1], [1]], [0, 0])
        # In minute 3 the vehicles with b behind them are sent on a in 1 and 5 minutes: their places are 4 and 0.
        standing = (0, 3, ((1, 1, 0), (1, 0, 0), (1, 1, 0)), ((0, 0, 0),))
        self.assertEqual(keep_round(plan, standing, (0, ())), ((), (2,)))
        other = RoundPlan(CHAIN, [[1, 4], [2]], [0, 0])
        self.assertEqual(keep_round(other, standing, (0, ())), ((), (0,)))
        # One that is full is not charged, and the first other one gets the unit.
        full = (0, 3, ((1, 1, 0), (1, 0, 0), (3, 1, 0)), ((0, 0, 0),))
        self.assertEqual(keep_round(plan, full, (0, ())), ((), (0,)))
        self.assertEqual(keep_round(other, (0, 3, ((3, 1, 0), (1, 0, 0), (2, 1, 0)), ()), (0, ())), ((), (1,)))
        self.assertEqual(keep_round(other, (0, 3, ((3, 1, 0), (3, 0, 0)), ()), (0, ())), ((), ()))

    def test_those_that_are_sent_are_not_counted(self):
        plan = RoundPlan(CHAIN, [[0, 1], [1]], [0, 0])
        # Vehicle 0 runs a now; vehicle 2 is then the first one for a, in 4 minutes, so its place is 1.
        standing = (0, 0, ((3, 1, 0), (1, 0, 0), (1, 1, 0)), ())
        self.assertEqual(keep_round(plan, standing, (0, ())), ((0,), (2,)))

    def test_places_before_the_stay(self):
        # In minute 1 the vehicles with b behind them are sent on a in 3 and 7 minutes: the places are 2 and -2.
        standing = (0, 1, ((1, 1, 0), (0, 1, 0), (3, 0, 0)), ())
        for charges in ([[0, 1], [1]], [[2, 4], [2]]):
            self.assertEqual(keep_round(RoundPlan(CHAIN, charges, [0, 0]), standing, (0, ())), ((2,), (0,)))

    def test_nobody_or_too_few_units(self):
        plan = ring_answer(DAY)
        self.assertIsNone(keep_round(plan, (0, 0, ((3, 0, 0),), ()), (0, ())))
        self.assertIsNone(keep_round(plan, (0, 0, (), ()), (0, ())))
        self.assertIsNone(keep_round(plan, (0, 0, ((1, 1, 0), (3, 1, 0)), ()), (0, ())))
        self.assertEqual(keep_round(plan, (0, 0, ((2, 1, 0), (3, 1, 0)), ()), (0, ())), ((0,), ()))

    def test_the_vehicles_that_come(self):
        plan = ring_answer(DAY)
        standing = (0, 0, ((3, 0, 0),), ((1, -1, 2),))
        self.assertEqual(keep_round(plan, standing, (0, (0,))), ((1,), ()))

    def test_one_line_without_bars(self):
        day = day_of([0, 2], "round 4", "line a 2 2 use 1 late 1", "cable 1 1", "patience 0", "vehicle a", "page p a > p",
                     "start p")
        plan = ring_answer(day)
        self.assertEqual([plan.chain.stays, plan.charges], [(1,), ((0,),)])
        self.assertEqual(len(standings_kept(self, plan)), 6)
        self.assertEqual(standings_kept(self, plan, latest=True) - standings_kept(self, plan), set())

    def test_a_cable_that_gives_more_than_the_plan(self):
        day = alternating("aabb", cable="cable 3 3")
        plan = round_plan(ring_chain(day))
        standing = (0, 3, ((1, 1, 0), (1, 0, 0), (1, 1, 0)), ())
        self.assertEqual(keep_round(plan, standing, (0, ())), ((), (0, 1, 2)))
        standings_kept(self, plan)
        # Vehicle 0 is due, and the first other one is charged beside it.
        plan = RoundPlan(ring_chain(alternating("aabb", cable="cable 2 3")), [[1, 4], [2]], [0, 0])
        self.assertEqual(keep_round(plan, standing, (0, ())), ((), (0, 1)))


class Refusing(Case):
    def test_depots_that_are_not_ringed(self):
        news = (0, ())
        for day in (alternating("aabb", patience=1), alternating("aabb", patience="none"),
                    alternating("aabb", bars=("bar a a",)),
                    alternating("aabb", "page p a b > p q", "page q a b > p", "start p")):
            plan = round_plan(Chain(day, [1, 0], [2, 2]))
            self.refused(NotRinged, [], keep_round, plan, first_standing(day), news)
            self.refused(NotRinged, [], keep_round, plan, first_standing(day), (9, ()))

    def test_other_chains(self):
        for chain in (Chain(DAY, [1, 0], [2, 3]), Chain(DAY, [1, 0], [3, 2]), Chain(DAY, [0, 1], [3, 3])):
            plan = round_plan(chain, width=1)
            self.refused(NotRinged, [], keep_round, plan, first_standing(DAY), (0, ()))
            self.refused(NotRinged, [], keep_round, plan, first_standing(DAY), (9, ()))

    def test_other_widths(self):
        for width in (2, 3, 9):
            plan = round_plan(CHAIN, width=width)
            self.refused(NotRinged, [], keep_round, plan, first_standing(DAY), (0, ()))
            self.refused(NotRinged, [], keep_round, plan, first_standing(DAY), (9, ()))
        self.assertEqual(keep_round(round_plan(CHAIN, width=1), first_standing(DAY), (0, ())), ((2,), ()))

    def test_no_news(self):
        plan = ring_answer(DAY)
        for news in ((1, ()), (-1, ()), (0, (0,))):
            self.refused(NoNews, [], keep_round, plan, first_standing(DAY), news)


if __name__ == "__main__":
    unittest.main()
