"""Answers and what they lead to, points [49], [55] and [56]."""

import itertools
import random
import unittest

from depotday.answering import after, answers
from depotday.errors import NoAnswer, NoNews
from depotday.standings import first_standing, news_list
from helping import GREAT, Case, day_of, random_standing, some_small_days
from trying import after_by_words, answers_by_trying, is_proper, subsets

PAGES = ("page p a b > p", "page q a > p", "page r > p", "start p q r")


def day_with(patience, *bars, width=1, full=4, times=(1, 0, 1, 2)):
    """Two lines that both go out in minute 1 of rounds of 3."""
    return day_of(list(times), "round 3", "line a 2 2 use 1 late 1", "line b 1 1 use 2 late 0",
                  f"cable {width} {full}", f"patience {patience}", "vehicle a", *bars, *PAGES)


def home_of(*units, last=-1, passed=0):
    return tuple((number, last, passed) for number in units)


class Sent(Case):
    def sent(self, day, page, home, minute=1, out=()):
        """The sent parts of all answers, each once."""
        return sorted({sent for sent, _ in answers(day, (page, minute, home, out), (page, ()))})

    def test_lines_that_go_out(self):
        day, home = day_with("none"), home_of(2, 2)
        self.assertEqual(self.sent(day, 0, home), [(0, 1), (1, 0)])
        self.assertEqual(self.sent(day, 1, home), [(0,), (1,)])
        self.assertEqual([self.sent(day, 2, home), self.sent(day, 0, home, 0), self.sent(day, 0, home, 2)], [[()]] * 3)
        self.assertEqual(self.sent(day_with("none", times=(1, 0, 2, 0)), 0, home), [(0,), (1,)])

    def test_units(self):
        day = day_with("none")
        self.assertEqual(self.sent(day, 0, home_of(1, 1, 2)), [(0, 2), (1, 2)])
        self.assertEqual(self.sent(day, 0, home_of(0, 1, 2)), [(1, 2)])
        for home in (home_of(1, 1), home_of(0, 4), home_of(4), ()):
            self.assertEqual(answers(day, (0, 1, home, ()), (0, ())), [])

    def test_bars(self):
        day = day_with("none", "bar a b", "bar b b", "bar b a")
        self.assertEqual(self.sent(day, 0, ((4, 0, 0), (4, 0, 0))), [])
        self.assertEqual(self.sent(day, 1, ((4, 0, 0), (4, 1, 0))), [(0,)])

    def test_patience(self):
        home = home_of(4, 4, 4)
        self.assertEqual(self.sent(day_with(0), 1, home), [(0,)])
        self.assertEqual(self.sent(day_with(1), 1, home), [(0,), (1,), (2,)])
        self.assertEqual(self.sent(day_with(0), 0, home), [(0, 1), (1, 0)])
        # Vehicle 0 would be passed over twice by the vehicles 1 and 2.
        self.assertEqual(self.sent(day_with(1), 0, home), [(0, 1), (0, 2), (1, 0), (2, 0)])
        self.assertEqual(len(self.sent(day_with(2), 0, home)), 6)

    def test_what_was_passed_over_before(self):
        home = ((4, -1, 1), (4, -1, 2), (4, -1, 0))
        self.assertEqual(self.sent(day_with(2), 1, home), [(0,), (1,)])
        self.assertEqual(self.sent(day_with(3), 1, home), [(0,), (1,), (2,)])
        self.assertEqual(self.sent(day_with(4), 0, home), list(itertools.permutations(range(3), 2)))

    def test_a_barred_line_passes_nobody_over(self):
        day = day_with(0, "bar a b", "bar b a")
        self.assertEqual(self.sent(day, 0, ((4, 0, 0), (4, 1, 0), (4, 0, 0))), [(0, 1)])
        self.assertEqual(self.sent(day, 1, ((4, 1, 0), (4, 1, 0), (4, 0, 0), (4, 0, 0))), [(2,)])

    def test_whoever_has_too_few_units_is_passed_over_too(self):
        self.assertEqual(answers(day_with(0), (1, 1, home_of(0, 4), ()), (1, ())), [])
        self.assertEqual(answers(day_with(1), (1, 1, home_of(0, 4), ()), (1, ())), [((1,), (0,))])

    def test_who_comes_can_be_sent_at_once(self):
        day = day_with(0)
        self.assertEqual(answers(day, (0, 1, home_of(4), ((0, 0, 3),)), (0, (0,))), [((0, 1), ()), ((1, 0), ())])
        self.assertEqual(answers(day, (0, 1, home_of(4), ((0, 0, 3),)), (0, ())), [])
        self.assertEqual(answers(day, (1, 1, (), ((0, -1, 1),)), (1, (0,))), [((0,), ())])


class Charged(Case):
    def charged(self, width, units, page=2, minute=0, full=4):
        day = day_with("none", width=width, full=full)
        return answers(day, (page, minute, home_of(*sorted(units)), ()), (page if minute else 0, ()))

    def test_exactly_the_width(self):
        self.assertEqual(self.charged(0, (0, 1, 2)), [((), ())])
        self.assertEqual(self.charged(1, (0, 1, 4)), [((), (0,)), ((), (1,))])
        self.assertEqual(self.charged(2, (0, 1, 2)), [((), (0, 1)), ((), (0, 2)), ((), (1, 2))])

    def test_all_if_there_are_fewer(self):
        self.assertEqual(self.charged(3, (0, 3, 4)), [((), (0, 1))])
        self.assertEqual(self.charged(4, (0, 1, 2)), [((), (0, 1, 2))])
        self.assertEqual([self.charged(2, (4, 4)), self.charged(4, ())], [[((), ())]] * 2)

    def test_nobody_holds_more_than_nothing(self):
        day = day_of([0, 1], "round 3", "line a 1 1 use 0 late 0", "cable 2 0", "patience none", "vehicle a",
                     "vehicle a", "page p a > p", "start p")
        self.assertEqual(answers(day, first_standing(day), (0, ())), [((0,), ()), ((1,), ())])

    def test_those_that_are_sent_are_not_charged(self):
        self.assertEqual(self.charged(1, (1, 2, 4), 1, 1), [((0,), (1,)), ((1,), (0,)), ((2,), (0,)), ((2,), (1,))])
        self.assertEqual(self.charged(2, (2, 3), 1, 1), [((0,), (1,)), ((1,), (0,))])
        self.assertEqual(self.charged(2, (2, 2), 0, 1), [((0, 1), ()), ((1, 0), ())])

    def test_those_that_come_are_charged(self):
        day = day_with(0)
        self.assertEqual(answers(day, (2, 2, home_of(4), ((1, 0, 2),)), (2, (0,))), [((), (1,))])


class Answers(Case):
    def test_alike_vehicles_are_others(self):
        self.assertEqual(answers(day_with("none"), (1, 1, home_of(2, 2, 2), ()), (1, ())),
                         [((0,), (1,)), ((0,), (2,)), ((1,), (0,)), ((1,), (2,)), ((2,), (0,)), ((2,), (1,))])

    def test_no_news(self):
        standing = (0, 1, home_of(4), ((0, 1, 2), (1, 0, 1)))
        self.assertEqual(answers(day_with(0), standing, (0, (1,))), [((1, 0), ())])
        for news in ((1, (1,)), (0, ()), (0, (0, 1)), (0, (1, 1)), (0, (2,)), (-1, (1,))):
            self.refused(NoNews, [], answers, day_with(0), standing, news)

    def test_against_trying(self):
        chance = random.Random(55)
        empty, several = 0, 0
        for day in some_small_days(55, 120, lines=(1, 4), full=3):
            for _ in range(6):
                standing = random_standing(chance, day)
                for news in news_list(day, standing):
                    found = self.keeps(answers, day, standing, news)
                    self.assertEqual(found, answers_by_trying(day, standing, news))
                    empty += found == []
                    several += len({sent for sent, _ in found}) > 1
        self.assertTrue(empty > 100 and several > 100, (empty, several))

    def test_what_is_returned_is_new(self):
        self.fresh(lambda: answers(day_with(0), (0, 1, home_of(4, 4), ()), (0, ())), lambda rows: rows.append(9))


class After(Case):
    def test_example(self):
        day = day_of([0, 2], "round 3", "line a 2 2 use 1 late 1", "cable 1 2", "patience 0", "vehicle a", "vehicle a",
                     "page day a > day", "start day")
        first = first_standing(day)
        self.assertEqual([first, news_list(day, first), answers(day, first, (0, ()))],
                         [(-1, 0, ((2, -1, 0), (2, -1, 0)), ()), [(0, ())], [((0,), ())]])
        self.assertEqual(after(day, first, (0, ()), ((0,), ())), (0, 1, ((2, -1, 0),), ((0, 1, 1),)))

    def test_the_next_minute(self):
        day = day_with(2)
        for minute, following in ((0, 1), (2, 0)):
            self.assertEqual(after(day, (2, minute, home_of(4), ()), (2 if minute else 0, ()), ((), ())),
                             (2 if minute else 0, following, home_of(4), ()))

    def test_who_is_passed_over(self):
        day = day_with(2, "bar a b")
        standing = (0, 1, ((1, 0, 1), (4, 1, 0), (3, 0, 2), (2, 1, 0)), ())
        self.assertEqual(after(day, standing, (0, ()), ((2, 3), (0,))),
                         (0, 2, ((2, 0, 2), (4, 1, 2)), ((0, 1, 2), (1, 0, 0))))

    def test_a_free_depot(self):
        day = day_with("none", "bar a b")
        standing = (0, 1, ((1, 0, 0), (1, 1, 0), (2, 0, 0), (3, 1, 0)), ())
        self.assertEqual(after(day, standing, (0, ()), ((2, 3), (0,))),
                         (0, 2, ((1, 1, 0), (2, 0, 0)), ((0, 1, 1), (1, 0, 1))))

    def test_who_is_out(self):
        day = day_with(2)
        standing = (1, 1, home_of(4), ((0, 0, 3), (1, 0, 1)))
        self.assertEqual(after(day, standing, (1, (1,)), ((0,), (1,))),
                         (1, 2, ((2, -1, 0),), ((0, -1, 3), (0, 1, 3))))
        self.assertEqual(after(day, standing, (1, (0, 1)), ((1,), (2,))),
                         (1, 2, ((4, -1, 1), (2, -1, 0)), ((0, 1, 2),)))

    def test_no_news_then_no_answer(self):
        day, standing = day_with(1), (0, 1, home_of(4, 2, 3, 2), ())
        right = ((1, 0), (2,))
        self.assertEqual(after(day, standing, (0, ()), right)[1], 2)
        self.refused(NoNews, [], after, day, standing, (1, ()), right)
        self.refused(NoNews, [], after, day, standing, (1, ()), ((), ()))
        for answer in (((), ()), ((1,), (2,)), ((1, 0, 2), (3,)), ((1, 1), (2,)), ((4, 0), (2,)), ((-1, 0), (2,)),
                       ((0, GREAT), (2,)), ((0, -4), (2,)), ((1, 2), (3,)), ((1, 0), ()), ((1, 0), (2, 3)),
                       ((1, 0), (3, 2)), ((1, 0), (2, 2)), ((1, 0), (0,)), ((1, 0), (1,)), ((1, 0), (4,)),
                       ((1, 0), (-1,)), ((2, 3), (0,)), ((1, 0), (GREAT,))):
            self.refused(NoAnswer, [], after, day, standing, (0, ()), answer)
        wide = day_with(1, width=2)
        self.assertEqual(after(wide, (2, 1, home_of(1, 2, 3), ()), (2, ()), ((), (0, 2)))[2], home_of(2, 2, 4))
        for charged in ((2, 0), (0, 0), (0,), (0, 1, 2)):
            self.refused(NoAnswer, [], after, wide, (2, 1, home_of(1, 2, 3), ()), (2, ()), ((), charged))
        self.refused(NoAnswer, [], after, day, (0, 1, home_of(0, 4), ()), (0, ()), ((0, 1), ()))
        self.refused(NoAnswer, [], after, day, (0, 1, home_of(1, 1), ()), (0, ()), ((0, 1), ()))
        self.refused(NoAnswer, [], after, day, (2, 2, home_of(4, 4), ()), (2, ()), ((), (0,)))
        barred = day_with("none", "bar a a")
        self.refused(NoAnswer, [], after, barred, (1, 1, ((4, 0, 0), (4, 1, 0)), ()), (1, ()), ((0,), ()))

    def test_against_words(self):
        chance = random.Random(56)
        for day in some_small_days(56, 100, lines=(1, 4), full=3):
            for _ in range(4):
                standing = random_standing(chance, day)
                for news in news_list(day, standing):
                    for answer in answers(day, standing, news):
                        found = self.keeps(after, day, standing, news, answer)
                        self.assertEqual(found, after_by_words(day, standing, news, answer))
                        self.assertTrue(is_proper(day, found))

    def test_answers_are_what_is_not_refused(self):
        chance = random.Random(57)
        refused = 0
        for day in some_small_days(57, 60):
            standing = random_standing(chance, day)
            for news in news_list(day, standing):
                right, many = answers(day, standing, news), len(standing[2]) + len(news[1])
                for size in range(3):
                    for sent in itertools.product(range(-1, many), repeat=size):
                        for charged in subsets(many):
                            if (sent, charged) not in right:
                                self.refused(NoAnswer, [], after, day, standing, news, (sent, charged))
                                refused += 1
        self.assertGreater(refused, 1000)


if __name__ == "__main__":
    unittest.main()
