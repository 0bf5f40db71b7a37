"""Rules, points [64] and [65]."""

import random
import unittest

from depotday.answering import answers
from depotday.errors import BadRule, NoNews
from depotday.rules import Rule
from depotday.standings import news_list, queue_after
from helping import Case, day_of, random_standing, some_small_days
from trying import leaving_by_words, may_be_sent

WORDS = ("first", "last", "fullest", "emptiest")
ROWS = ("round 3", "line a 2 2 use 1 late 1", "line b 1 1 use 2 late 0")
PAGES = ("page p a b > p", "page q a > p", "page r > p", "start p q r")


def day_with(patience, *bars, width=1, full=4):
    """Two lines that both go out in minute 1 of rounds of 3."""
    return day_of([1, 0, 1, 2], *ROWS, f"cable {width} {full}", f"patience {patience}", "vehicle a", *bars, *PAGES)


def home_of(*units, last=-1):
    return tuple((number, last, 0) for number in units)


def picked_by_words(word, queue, places):
    """Point [65], by a sort."""
    keys = {"first": lambda at: at, "last": lambda at: -at, "fullest": lambda at: (-queue[at][0], at),
            "emptiest": lambda at: (queue[at][0], at)}
    return sorted(places, key=keys[word])[0]


def answer_by_words(rule, day, standing, news):
    queue, depot = queue_after(day, standing, news), day.depot
    lines, sent, charged = leaving_by_words(day, standing, news), [], []
    for line in lines:
        able = [at for at, (units, last, _) in enumerate(queue) if at not in sent
                and units >= depot.clock.lines[line].use and not depot.is_barred(last, line)]
        if not able:
            return None
        sent.append(picked_by_words(rule.send_word, queue, able))
    if not may_be_sent(day, queue, lines, sent):
        return None
    left = [at for at, (units, _, _) in enumerate(queue) if at not in sent and units < depot.cable.full]
    while left and len(charged) < depot.cable.width:
        charged.append(picked_by_words(rule.charge_word, queue, left))
        left.remove(charged[-1])
    return tuple(sent), tuple(sorted(charged))


class Making(Case):
    def test_words(self):
        self.assertEqual(Rule.WORDS, WORDS)
        self.assertIs(type(Rule.WORDS), tuple)
        for send in WORDS:
            for charge in WORDS:
                rule = Rule(send, charge)
                self.assertEqual([rule.send_word, rule.charge_word], [send, charge])

    def test_refused(self):
        for word in ("", "First", "any", "first ", "emptiest,", "send", "firs"):
            self.refused(BadRule, ["send"], Rule, word, "first")
            self.refused(BadRule, ["charge"], Rule, "last", word)
            self.refused(BadRule, ["send"], Rule, word, word)

    def test_every(self):
        rules = Rule.every()
        self.assertEqual([(rule.send_word, rule.charge_word) for rule in rules],
                         [(send, charge) for send in WORDS for charge in WORDS])
        self.assertTrue(all(type(rule) is Rule for rule in rules))
        self.fresh(Rule.every, lambda found: found.append(9))

    def test_written_forms(self):
        self.assertEqual(str(Rule("first", "emptiest")), "send first, charge emptiest")
        self.assertEqual([str(rule) for rule in Rule.every()],
                         [f"send {send}, charge {charge}" for send in WORDS for charge in WORDS])

    def test_parse(self):
        for rule in Rule.every():
            found = Rule.parse(str(rule))
            self.assertEqual([found, type(found)], [rule, Rule])

    def test_texts_that_are_no_rule(self):
        for text in ("", "send first", "send first charge last", "send first,charge last", "send first,  charge last",
                     " send first, charge last", "send first, charge last ", "send first, charge last\n",
                     "Send first, charge last", "send any, charge last", "send first, charge any", "first last",
                     "charge first, send last", "send first, charge last, charge last"):
            self.refused(BadRule, ["text"], Rule.parse, text)

    def test_equal(self):
        rules = Rule.every()
        for at, rule in enumerate(rules):
            for other_at, other in enumerate(Rule.every()):
                self.assertEqual(rule == other, at == other_at)
                self.assertEqual(rule != other, at != other_at)
        self.assertFalse(rules[0] == "send first, charge first")


class Sending(Case):
    def sent(self, word, day, page, home):
        answer = Rule(word, "first")(day, (page, 1, home, ()), (page, ()))
        return answer and answer[0]

    def test_one_line(self):
        home = home_of(2, 4, 1, 4, 1, 3)
        self.assertEqual([self.sent(word, day_with(4), 1, home) for word in WORDS], [(0,), (5,), (1,), (2,)])
        self.assertEqual([self.sent(word, day_with(4), 1, home[:5]) for word in WORDS], [(0,), (4,), (1,), (2,)])

    def test_lines_in_ascending_order_and_nobody_twice(self):
        home = home_of(2, 4, 1, 4, 3)
        self.assertEqual([self.sent(word, day_with(4), 0, home) for word in WORDS], [(0, 1), (4, 3), (1, 3), (2, 0)])

    def test_free_depots_have_their_own_order(self):
        home = home_of(1, 1, 2, 4, 4)
        self.assertEqual([self.sent(word, day_with("none"), 0, home) for word in WORDS],
                         [(0, 2), (4, 3), (3, 4), (0, 2)])

    def test_units_and_bars(self):
        self.assertEqual([self.sent(word, day_with(4), 1, home_of(0, 2, 0)) for word in WORDS], [(1,)] * 4)
        self.assertEqual([self.sent(word, day_with(4), 0, home_of(1, 1, 3)) for word in WORDS],
                         [(0, 2), None, None, (0, 2)])
        home = ((4, 0, 0), (3, 1, 0), (2, 1, 0), (1, 0, 0))
        self.assertEqual([self.sent(word, day_with(4, "bar a a"), 1, home) for word in WORDS],
                         [(1,), (2,), (1,), (2,)])

    def test_none(self):
        for home in ((), home_of(0), home_of(0, 0)):
            self.assertEqual([self.sent(word, day_with(4), 1, home) for word in WORDS], [None] * 4)
        # One vehicle is not enough for both lines.
        self.assertEqual([self.sent(word, day_with("none"), 0, home_of(4)) for word in WORDS], [None] * 4)

    def test_passed_over_too_often(self):
        home = home_of(1, 2, 3)
        self.assertEqual([self.sent(word, day_with(0), 1, home) for word in WORDS], [(0,), None, None, (0,)])
        self.assertEqual([self.sent(word, day_with(1), 1, home) for word in WORDS], [(0,), (2,), (2,), (0,)])
        worn = ((3, -1, 1), (4, -1, 0))
        self.assertEqual([self.sent(word, day_with(1), 1, worn) for word in WORDS], [(0,), None, None, (0,)])

    def test_who_comes_can_be_picked(self):
        standing = (1, 1, home_of(3), ((0, -1, 4),))
        self.assertEqual([Rule(word, "first")(day_with(1), standing, (1, (0,))) for word in WORDS],
                         [((0,), ()), ((1,), (0,)), ((1,), (0,)), ((0,), ())])


class Charging(Case):
    def charged(self, word, width, home, page=2, full=4):
        return Rule("first", word)(day_with(4, width=width, full=full), (page, 1, home, ()), (page, ()))[1]

    def test_one(self):
        home = home_of(2, 4, 1, 3, 1, 3, 2, 4)[:5]
        self.assertEqual([self.charged(word, 1, home) for word in WORDS], [(0,), (4,), (3,), (2,)])

    def test_several_are_ascending(self):
        home = home_of(2, 4, 1, 3, 1)
        self.assertEqual([self.charged(word, 2, home) for word in WORDS], [(0, 2), (3, 4), (0, 3), (2, 4)])
        self.assertEqual([self.charged(word, 3, home) for word in WORDS], [(0, 2, 3), (2, 3, 4), (0, 2, 3), (0, 2, 4)])
        self.assertEqual([self.charged(word, 4, home) for word in WORDS], [(0, 2, 3, 4)] * 4)

    def test_by_the_units_before(self):
        # A vehicle is picked once, also if it would still have the fewest units with the one that it gets.
        self.assertEqual(self.charged("emptiest", 2, home_of(3, 0, 2)), (1, 2))

    def test_none_or_few(self):
        self.assertEqual([self.charged(word, 0, home_of(1, 2)) for word in WORDS], [()] * 4)
        self.assertEqual([self.charged(word, 3, home_of(4, 2, 4)) for word in WORDS], [(1,)] * 4)
        self.assertEqual([self.charged(word, 3, home_of(4, 4)) for word in WORDS], [()] * 4)

    def test_those_that_stay(self):
        self.assertEqual([self.charged(word, 1, home_of(1, 3, 2), page=1) for word in WORDS],
                         [(1,), (2,), (1,), (2,)])


class Answering(Case):
    def test_no_news(self):
        for rule in Rule.every():
            standing = (1, 1, home_of(4), ((0, 1, 4),))
            self.assertEqual(rule(day_with(0), standing, (1, ())), ((0,), ()))
            for news in ((0, ()), (1, (0,)), (1, (1,)), (-1, ())):
                self.refused(NoNews, [], rule, day_with(0), standing, news)
            self.refused(NoNews, [], rule, day_with(0), (1, 1, (), ()), (0, ()))

    def test_against_words(self):
        chance = random.Random(65)
        kinds = {True: 0, False: 0}
        for day in some_small_days(65, 150, lines=(1, 4), full=3):
            for _ in range(3):
                standing = random_standing(chance, day)
                for news in news_list(day, standing):
                    right = answers(day, standing, news)
                    for rule in chance.sample(Rule.every(), 4):
                        found = self.keeps(rule, day, standing, news)
                        self.assertEqual(found, answer_by_words(rule, day, standing, news))
                        self.assertTrue(found is None or found in right)
                        kinds[found is None] += 1
        self.assertGreater(min(kinds.values()), 200)


if __name__ == "__main__":
    unittest.main()
