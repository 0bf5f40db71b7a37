"""Tables and plans, points [59] to [62]."""

import unittest

from depotday.answering import after, answers
from depotday.errors import NoNews, TooMany, UnknownStanding
from depotday.games import Game
from depotday.papers import Paper, Plan, Table, decide
from depotday.standings import first_standing, news_list
from helping import Case, day_of, great_day, some_ringed_days, some_small_days

ROWS = ("round 3", "line a 2 2 use 1 late 1", "cable 1 2", "patience 0")
PAGE = ("page day a > day", "start day")
ONE = day_of([0, 2], *ROWS, "vehicle a", *PAGE)
TWO = day_of([0, 2], *ROWS, "vehicle a", "vehicle a", *PAGE)
# On time the vehicle is a minute at home, which is enough; late it is none.
EARLY = (0, 0, ((2, -1, 0),) * 2, ())


def papers_of(days, kind, most=400):
    """The papers of one kind on these days, with their games, both with all comings and with the latest ones."""
    found = []
    for day in days:
        for latest in (False, True):
            try:
                paper = decide(day, latest=latest, most=most)
            except TooMany:
                continue
            if isinstance(paper, kind):
                found.append((paper, Game(day, latest=latest, most=most)))
    return found


class Deciding(Case):
    def test_example(self):
        self.assertEqual(decide(ONE).told(), "all comings: broken within 7 minutes")

    def test_kinds(self):
        for day, kind in ((ONE, Plan), (TWO, Table)):
            for latest in (False, True):
                paper = self.keeps(decide, day, latest=latest)
                self.assertIs(type(paper), kind)
                self.assertTrue(isinstance(paper, Paper))
                self.assertEqual([paper.day, paper.latest, paper.first], [day, latest, first_standing(day)])
        self.assertIs(decide(ONE).latest, False)

    def test_a_table_exactly_if_the_first_standing_is_held(self):
        kinds = {Plan: 0, Table: 0}
        for kind in kinds:
            for paper, game in papers_of(some_small_days(59, 120), kind):
                kinds[kind] += 1
                self.assertEqual(game.rank(game.first) is None, kind is Table)
        self.assertGreater(min(kinds.values()), 20)

    def test_most(self):
        self.assertEqual(len(Game(TWO)), 5)
        self.assertEqual(decide(TWO, most=5).told(), "all comings: table of 5 standings")
        self.refused(TooMany, [4], decide, TWO, most=4)
        self.assertEqual(decide(TWO, latest=True, most=4).told(), "latest comings: table of 4 standings")
        self.refused(TooMany, [3], decide, TWO, latest=True, most=3)
        # The game is looked at, although the plan itself would need few of its standings.
        self.refused(TooMany, [2000], decide, great_day(4))
        self.assertEqual(type(decide(great_day(3))), type(decide(great_day(3), most=1959)))


class Papers(Case):
    def test_a_bare_paper(self):
        for day, latest, told in ((TWO, False, "all comings"), (ONE, True, "latest comings")):
            paper = self.keeps(Paper, day, latest)
            self.assertEqual([paper.day, paper.latest, paper.first, paper.told()],
                             [day, latest, first_standing(day), told])
            self.assertEqual([len(paper), paper.standings(), paper.first in paper], [0, [], False])

    def test_told(self):
        self.assertEqual([decide(day, latest=latest).told() for day in (ONE, TWO) for latest in (False, True)],
                         ["all comings: broken within 7 minutes", "latest comings: broken within 7 minutes",
                          "all comings: table of 5 standings", "latest comings: table of 4 standings"])
        alone = day_of([0, 2], *ROWS, "vehicle a", "bar a a", *PAGE)
        self.assertEqual(decide(alone).told(), "all comings: broken within 1 minutes")

    def test_as_a_collection(self):
        for day in (ONE, TWO):
            paper = decide(day)
            rows = paper.standings()
            self.assertEqual([len(paper), len(set(rows)), rows], [len(rows), len(rows), paper.standings()])
            self.assertTrue(paper.first in paper and all(standing in paper for standing in rows))
            self.assertFalse((0, 0, (), ()) in paper or () in paper)
            self.fresh(paper.standings, lambda found: found.append(9))


class Tables(Case):
    def test_whoever_follows_it_goes_on(self):
        for table, game in papers_of(some_small_days(60, 150) + some_ringed_days(60, 40), Table):
            seen, waiting = set(), [table.first]
            while waiting:
                standing = waiting.pop()
                if standing in seen:
                    continue
                seen.add(standing)
                self.assertTrue(standing in table)
                self.assertIsNone(game.rank(standing))
                for news in news_list(table.day, standing, latest=table.latest):
                    answer = self.keeps(table.answer, standing, news)
                    self.assertEqual(answer, table.answer(standing, news))
                    self.assertIn(answer, answers(table.day, standing, news))
                    waiting.append(after(table.day, standing, news, answer))
            # It has these standings and no others.
            self.assertEqual(set(table.standings()), seen)
            self.assertEqual(table.told(), ("latest" if table.latest else "all") +
                             f" comings: table of {len(seen)} standings")

    def test_unknown_standing_then_no_news(self):
        table, standing = decide(TWO), (0, 2, ((2, -1, 0),), ((0, 0, 1),))
        self.assertEqual([table.answer(standing, (0, came)) for came in ((), (0,))], [((), ()), ((), (1,))])
        for news in ((0, (0, 0)), (1, ()), (0, (1,)), (-1, ())):
            self.refused(NoNews, [], table.answer, standing, news)
        for news in ((0, ()), (9, ())):
            self.refused(UnknownStanding, [], table.answer, (0, 0, (), ()), news)

    def test_news_and_standings_of_the_latest_comings(self):
        table, standing = decide(TWO, latest=True), (0, 2, ((2, -1, 0),), ((0, 0, 1),))
        self.assertEqual(table.answer(standing, (0, ())), ((), ()))
        self.refused(NoNews, [], table.answer, standing, (0, (0,)))
        self.assertEqual(decide(TWO).answer(EARLY, (0, ())), ((0,), ()))
        self.refused(UnknownStanding, [], table.answer, EARLY, (0, ()))

    def test_standings_of_the_game_that_are_not_of_the_table(self):
        left_out = 0
        for table, game in papers_of(some_small_days(61, 150), Table):
            for standing in set(game) - set(table.standings()):
                left_out += 1
                self.assertFalse(standing in table)
                self.refused(UnknownStanding, [], table.answer, standing, game.news(standing)[0])
        self.assertGreater(left_out, 20)


class Plans(Case):
    def test_no_keeper_lasts_longer(self):
        for plan, game in papers_of(some_small_days(62, 150) + some_ringed_days(62, 40), Plan):
            self.assertEqual(plan.minutes, game.rank(game.first))
            newest, seen, minutes = {plan.first}, set(), 0
            while newest:
                minutes += 1
                seen |= newest
                coming = set()
                for standing in newest:
                    self.assertTrue(standing in plan)
                    rank = game.rank(standing)
                    self.assertEqual(self.keeps(plan.rank, standing), rank)
                    news = self.keeps(plan.news, standing)
                    self.assertEqual(news, plan.news(standing))
                    self.assertIn(news, news_list(plan.day, standing, latest=plan.latest))
                    found = {after(plan.day, standing, news, answer) for answer in answers(plan.day, standing, news)}
                    self.assertTrue(all(game.rank(one) is not None and game.rank(one) < rank for one in found))
                    coming |= found
                newest = coming
            self.assertEqual(set(plan.standings()), seen)
            # The slowest keeper needs exactly these minutes.
            self.assertEqual(minutes, plan.minutes)

    def test_unknown_standings(self):
        plan = decide(ONE)
        self.assertEqual([plan.minutes, plan.rank(plan.first), plan.news(plan.first)], [7, 7, (0, ())])
        for standing in ((0, 0, (), ()), (0, 1, ((2, -1, 0),), ())):
            self.refused(UnknownStanding, [], plan.news, standing)
            self.refused(UnknownStanding, [], plan.rank, standing)

    def test_standings_of_the_game_that_are_not_of_the_plan(self):
        left_out = 0
        for plan, game in papers_of(some_small_days(63, 150), Plan):
            for standing in set(game) - set(plan.standings()):
                left_out += 1
                self.assertFalse(standing in plan)
                self.refused(UnknownStanding, [], plan.news, standing)
                self.refused(UnknownStanding, [], plan.rank, standing)
        self.assertGreater(left_out, 20)


if __name__ == "__main__":
    unittest.main()
