"""Surveys, and rules against plans, points [66] and [67]."""

import unittest

from depotday.answering import after
from depotday.errors import TooMany
from depotday.papers import Plan, Table, decide
from depotday.rules import Rule
from depotday.standings import first_standing, news_list
from depotday.surveys import Survey, beat
from helping import Case, day_of, great_day, some_small_days

ROWS = ("round 3", "line a 2 2 use 1 late 1", "cable 1 2", "patience 0")
PAGE = ("page day a > day", "start day")
ONE = day_of([0, 2], *ROWS, "vehicle a", *PAGE)
TWO = day_of([0, 2], *ROWS, "vehicle a", "vehicle a", *PAGE)
FIRST = Rule("first", "first")
# Three units of four are used, and one is given in a minute: it matters who is charged.
CHOICE = day_of([2, 1], "round 3", "line a 2 4 use 3 late 1", "cable 1 4", "patience 0", "vehicle a", "vehicle a",
                "vehicle a", *PAGE)


def survey_by_trying(day, rule, latest):
    """The standings to which a rule leads, and the least of the shortest rows of news with which it is lost."""
    rows = {first_standing(day): []}
    newest, lost = [first_standing(day)], []
    while newest:
        coming = {}
        for standing in newest:
            for news in news_list(day, standing, latest=latest):
                row, answer = rows[standing] + [news], rule(day, standing, news)
                if answer is None:
                    lost.append(row)
                    continue
                found = after(day, standing, news, answer)
                if found not in rows:
                    coming[found] = min(coming.get(found, row), row)
        rows.update(coming)
        newest = list(coming)
    return set(rows), min(lost, key=lambda row: (len(row), row)) if lost else None


class Surveys(Case):
    def test_attributes(self):
        survey = Survey(TWO, FIRST)
        self.assertEqual([survey.day, survey.rule, survey.latest], [TWO, FIRST, False])
        self.assertIs(Survey(TWO, FIRST, latest=True).latest, True)

    def test_a_rule_that_holds(self):
        for latest, number in ((False, 5), (True, 4)):
            survey = self.keeps(Survey, TWO, FIRST, latest=latest)
            self.assertEqual([survey.holds, survey.row(), len(survey)], [True, None, number])

    def test_a_rule_that_does_not(self):
        survey = Survey(ONE, FIRST)
        self.assertIs(survey.holds, False)
        # With early comings it lasts as long as with late ones; () comes before (0,).
        self.assertEqual(survey.row(), [(0, ()), (0, ()), (0, ()), (0, (0,)), (0, ()), (0, ()), (0, (0,))])
        self.fresh(survey.row, lambda row: row.append(9))
        self.keeps(survey.row)

    def test_a_rule_that_fails_at_once(self):
        day = day_of([0, 2], *ROWS, "vehicle a", "bar a a", *PAGE)
        survey = Survey(day, FIRST)
        self.assertEqual([survey.holds, survey.row(), survey.standings()], [False, [(0, ())], [first_standing(day)]])

    def test_news_without_an_answer_lead_nowhere_but_others_do(self):
        day = day_of([0, 2], "round 3", "line a 2 2 use 2 late 0", "cable 1 2", "patience 0", "vehicle a",
                     "page day a > day night", "page night > day night", "start day")
        survey = Survey(day, FIRST)
        self.assertEqual(survey.row(), [(0, ()), (0, ()), (0, (0,)), (0, ())])
        self.assertTrue((1, 1, ((2, -1, 0),), ()) in survey)

    def test_the_least_of_the_shortest_rows(self):
        # The one vehicle cannot run both lines of page 1, to which page 0 leads at once and page 2 does not.
        day = day_of([0, 1, 0, 1], "round 3", "line a 1 1 use 0 late 0", "line b 1 1 use 0 late 0", "cable 0 0",
                     "patience 0", "vehicle b", "page p b > r q", "page q a b > p", "page r b > q", "start r p")
        self.assertEqual(Survey(day, FIRST).row(), [(0, ()), (0, (0,)), (0, ()), (1, ())])

    def test_which_rules_hold(self):
        held = [str(rule) for rule in Rule.every() if Survey(CHOICE, rule).holds]
        self.assertEqual(held, [f"send {send}, charge {charge}" for send, charge in
                                (("first", "first"), ("first", "fullest"), ("first", "emptiest"), ("fullest", "first"),
                                 ("fullest", "fullest"), ("fullest", "emptiest"), ("emptiest", "first"),
                                 ("emptiest", "fullest"))])

    def test_most(self):
        self.assertEqual(len(Survey(TWO, FIRST, most=5)), 5)
        for latest, number in ((False, 5), (True, 4)):
            self.assertEqual(len(Survey(TWO, FIRST, latest=latest, most=number)), number)
            for most in range(1, number):
                self.refused(TooMany, [most], Survey, TWO, FIRST, latest=latest, most=most)
        # A rule leads to fewer standings than all answers.
        self.refused(TooMany, [1000], decide, great_day(3), most=1000)
        self.assertLess(len(Survey(great_day(3), FIRST)), 1000)

    def test_as_a_collection(self):
        for day in (ONE, TWO, CHOICE):
            survey = Survey(day, FIRST)
            rows = survey.standings()
            self.assertEqual([len(survey), len(set(rows)), survey.standings()], [len(rows), len(rows), rows])
            self.assertTrue(first_standing(day) in survey and all(standing in survey for standing in rows))
            self.assertFalse((0, 0, (), ()) in survey or () in survey)
            self.fresh(survey.standings, lambda found: found.append(9))

    def test_against_trying(self):
        kinds, long = {True: 0, False: 0}, 0
        for day in some_small_days(66, 40):
            for rule in Rule.every()[::3]:
                for latest in (False, True):
                    try:
                        survey = Survey(day, rule, latest=latest, most=120)
                    except TooMany:
                        continue
                    found, row = survey_by_trying(day, rule, latest)
                    self.assertEqual(set(survey.standings()), found)
                    self.assertEqual([survey.holds, survey.row()], [row is None, row])
                    kinds[survey.holds] += 1
                    long += row is not None and len(row) > 3
                    if len(found) > 1:
                        self.refused(TooMany, [len(found) - 1], Survey, day, rule, latest=latest, most=len(found) - 1)
        self.assertGreater(min(*kinds.values(), long), 30)

    def test_a_survey_that_holds_means_a_table(self):
        held = 0
        for day in some_small_days(67, 60):
            for rule in Rule.every()[::3]:
                for latest in (False, True):
                    try:
                        holds = Survey(day, rule, latest=latest, most=150).holds
                        paper = decide(day, latest=latest, most=150)
                    except TooMany:
                        continue
                    if holds:
                        held += 1
                        self.assertIs(type(paper), Table)
        self.assertGreater(held, 20)


class Beating(Case):
    def test_one_vehicle(self):
        plan = decide(ONE)
        row = self.keeps(beat, plan, FIRST)
        self.assertEqual([len(row), row[0], row[-1]], [7, (0, ()), (0, (0,))])

    def test_every_rule_is_beaten_in_time(self):
        beaten, early = 0, 0
        for day in some_small_days(68, 150):
            for latest in (False, True):
                try:
                    plan = decide(day, latest=latest, most=300)
                except TooMany:
                    continue
                if isinstance(plan, Plan):
                    for rule in Rule.every()[::5]:
                        row = beat(plan, rule)
                        self.check(plan, rule, row)
                        beaten += 1
                        early += len(row) < plan.minutes
        self.assertTrue(beaten > 200 and early > 10, (beaten, early))

    def check(self, plan, rule, row):
        """The row has the news of the plan, and the rule answers all but the last."""
        self.assertTrue(1 <= len(row) <= plan.minutes)
        standing = plan.first
        for news in row[:-1]:
            self.assertEqual(news, plan.news(standing))
            standing = after(plan.day, standing, news, rule(plan.day, standing, news))
        self.assertEqual(row[-1], plan.news(standing))
        self.assertIsNone(rule(plan.day, standing, row[-1]))

    def test_what_is_returned_is_new(self):
        self.fresh(lambda: beat(decide(ONE), FIRST), lambda row: row.append(9))


if __name__ == "__main__":
    unittest.main()
