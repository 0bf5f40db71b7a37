"""Standings, news and queues, points [50] to [54]."""

import random
import unittest

from depotday.errors import NoNews
from depotday.standings import first_standing, news_list, queue_after
from helping import GREAT, Case, day_of, random_standing, some_small_days
from trying import first_by_words, is_proper, news_by_trying, queue_by_words, subsets

# Runs of 2 and 5 minutes, at most 1 and 2 minutes late, in rounds of 3.
ROWS = ("round 3", "line a 2 2 use 1 late 1", "line b 5 5 use 2 late 2", "cable 1 4")
PAGES = ("page day a b > day night", "page night a > day", "page rest > rest night", "start rest day")
TIMES = [0, 2, 1, 0]


def kept_by(patience, *bars, vehicles="bab"):
    return day_of(TIMES, *ROWS, f"patience {patience}", *[f"vehicle {name}" for name in vehicles], *bars, *PAGES)


WAIT, FREE = kept_by(2, "bar a a", "bar b a"), kept_by("none", "bar a a")
LOOSE = kept_by(1)
# Lines and dues: a must come, a may come, a is still out; b must, may twice, is still out.
OUT = ((0, -1, 3), (0, 0, 2), (1, -2, 0), (1, 0, 4), (1, 1, 1))


class First(Case):
    def test_in_the_order_of_the_vehicles(self):
        self.assertEqual(first_standing(WAIT), (-1, 0, ((4, 1, 0), (4, 0, 0), (4, 1, 0)), ()))

    def test_free(self):
        self.assertEqual(first_standing(FREE), (-1, 0, ((4, 0, 0), (4, 1, 0), (4, 1, 0)), ()))

    def test_without_bars(self):
        self.assertEqual(first_standing(LOOSE), (-1, 0, ((4, -1, 0),) * 3, ()))
        self.assertEqual(first_standing(kept_by("none", vehicles="a")), (-1, 0, ((4, -1, 0),), ()))

    def test_against_words(self):
        for day in some_small_days(520):
            self.assertEqual(self.keeps(first_standing, day), first_by_words(day))
            self.assertTrue(is_proper(day, first_standing(day)))


class News(Case):
    def test_pages(self):
        home = ((4, 1, 0),)
        self.assertEqual(news_list(WAIT, (-1, 0, home, ())), [(0, ()), (2, ())])
        self.assertEqual([news_list(WAIT, (page, 0, home, ())) for page in range(3)],
                         [[(0, ()), (1, ())], [(0, ())], [(1, ()), (2, ())]])
        self.assertEqual([news_list(WAIT, (page, minute, home, ())) for page in range(3) for minute in (1, 2)],
                         [[(0, ())], [(0, ())], [(1, ())], [(1, ())], [(2, ())], [(2, ())]])

    def test_who_must_and_who_may_come(self):
        for out, came in (((), [()]), (((0, 1, 4),), [()]), (((0, 0, 4),), [(), (0,)]), (((0, -1, 4),), [(0,)]),
                          (((1, 0, 4),), [(), (0,)]), (((1, -1, 4),), [(), (0,)]), (((1, -2, 4),), [(0,)]),
                          (((0, 0, 1), (1, 0, 1)), [(), (0,), (0, 1), (1,)]),
                          (((0, 0, 1), (1, -2, 1), (1, 4, 0)), [(0, 1), (1,)])):
            self.assertEqual(news_list(WAIT, (0, 2, (), out)), [(0, row) for row in came])

    def test_both_together(self):
        self.assertEqual(news_list(WAIT, (2, 0, (), OUT[:2])), [(1, (0,)), (1, (0, 1)), (2, (0,)), (2, (0, 1))])
        self.assertEqual(news_list(WAIT, (0, 1, (), OUT)), [(0, (0, 1, 2)), (0, (0, 1, 2, 3)), (0, (0, 2)),
                                                            (0, (0, 2, 3))])

    def test_a_line_that_is_never_late(self):
        day = day_of([0, 2], "round 3", "line a 2 2 use 1 late 0", "cable 1 4", "patience 0", "vehicle a",
                     "page p a > p", "start p")
        self.assertEqual([news_list(day, (0, 2, (), ((0, due, 3),))) for due in (0, 1)], [[(0, (0,))], [(0, ())]])

    def test_latest(self):
        self.assertEqual(news_list(WAIT, (0, 1, (), OUT), latest=True), [(0, (0, 2))])
        self.assertEqual(news_list(WAIT, (2, 0, (), OUT[1:2]), latest=True), [(1, ()), (2, ())])
        self.assertEqual(news_list(WAIT, (0, 1, (), OUT), latest=False), news_list(WAIT, (0, 1, (), OUT)))

    def test_against_trying(self):
        chance = random.Random(53)
        for day in some_small_days(53, 100, ties=(0, 1)):
            for _ in range(15):
                standing = random_standing(chance, day)
                self.assertTrue(is_proper(day, standing))
                for latest in (False, True):
                    found = self.keeps(news_list, day, standing, latest=latest)
                    self.assertEqual(found, news_by_trying(day, standing, latest))
                    self.assertEqual(found, sorted(found))

    def test_what_is_returned_is_new(self):
        self.fresh(lambda: news_list(WAIT, (-1, 0, (), ())), lambda rows: rows.append(9))


class After(Case):
    def test_at_the_end_in_the_order_of_out(self):
        home = ((1, 0, 2), (4, 1, 0))
        self.assertEqual(queue_after(WAIT, (0, 1, home, OUT[:3]), (0, (0, 1, 2))),
                         home + ((3, 0, 0), (2, 0, 0), (0, 1, 0)))
        self.assertEqual(queue_after(WAIT, (0, 1, home, OUT[:3]), (0, (0, 2))), home + ((3, 0, 0), (0, 1, 0)))
        self.assertEqual(queue_after(WAIT, (0, 1, home, ()), (0, ())), home)
        self.assertEqual(queue_after(WAIT, (0, 1, (), ()), (0, ())), ())

    def test_free(self):
        home = ((1, 1, 0), (3, 0, 0))
        self.assertEqual(queue_after(FREE, (0, 1, home, OUT[:3]), (0, (0, 1, 2))),
                         ((0, 1, 0), (1, 1, 0), (2, 0, 0), (3, 0, 0), (3, 0, 0)))

    def test_without_bars(self):
        self.assertEqual(queue_after(LOOSE, (0, 1, ((1, -1, 1),), OUT[:3]), (0, (0, 2))),
                         ((1, -1, 1), (3, -1, 0), (0, -1, 0)))

    def test_no_news(self):
        standing = (2, 0, ((4, 1, 0),), OUT)
        self.assertEqual(len(queue_after(WAIT, standing, (1, (0, 1, 2)))), 4)
        for news in ((0, (0, 2)), (-1, (0, 2)), (3, (0, 2)), (GREAT, (0, 2)), (1, (0,)), (1, ()), (1, (2,)),
                     (1, (0, 2, 4)), (1, (2, 0)), (1, (0, 0, 2)), (1, (0, 2, 5)), (1, (0, 2, -1)), (1, (-5, 0, 2)),
                     (1, (0, 2, GREAT)), (2, (0, 1, 3)), (1, (0, 2, 2))):
            self.refused(NoNews, [], queue_after, WAIT, standing, news)
        for page in (1, 2, -1):
            self.refused(NoNews, [], queue_after, WAIT, (0, 1, (), ()), (page, ()))
        self.refused(NoNews, [], queue_after, WAIT, (-1, 0, (), ()), (1, ()))

    def test_against_trying(self):
        chance = random.Random(54)
        for day in some_small_days(54, 80):
            for _ in range(8):
                standing = random_standing(chance, day)
                right = news_by_trying(day, standing)
                for page in range(-1, len(day.depot.book)):
                    for came in subsets(len(standing[3])):
                        if (page, came) not in right:
                            self.refused(NoNews, [], queue_after, day, standing, (page, came))
                            continue
                        queue = self.keeps(queue_after, day, standing, (page, came))
                        self.assertEqual(queue, queue_by_words(day, standing, (page, came)))


if __name__ == "__main__":
    unittest.main()
