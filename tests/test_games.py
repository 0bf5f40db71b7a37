"""Games, points [57] and [58]."""

import unittest

from depotday.answering import after, answers
from depotday.errors import TooMany, UnknownStanding
from depotday.games import Game
from depotday.standings import first_standing, news_list
from helping import Case, day_of, great_day, some_small_days
from trying import ranks_by_words, tree_by_words

ROWS = ("round 3", "line a 2 2 use 1 late 1", "cable 1 2", "patience 0")
PAGE = ("page day a > day", "start day")
ONE = day_of([0, 2], *ROWS, "vehicle a", *PAGE)
TWO = day_of([0, 2], *ROWS, "vehicle a", "vehicle a", *PAGE)
# A night without lines can come, but a foe need not let it come.
REST = day_of([0, 2], *ROWS, "vehicle a", "page day a > day night", "page night > day", "start night")
STRANGE = (0, 0, (), ())


def chain_of(game):
    """The standings of a game in which each news of a plain day comes at its latest, from the first one on."""
    standing, row = game.first, []
    while standing not in row:
        row.append(standing)
        news = news_list(game.day, standing, latest=True)[0]
        found = answers(game.day, standing, news)
        if not found:
            return row
        standing = after(game.day, standing, news, found[0])
    return row


class Standings(Case):
    def test_attributes(self):
        game = Game(TWO)
        self.assertEqual([game.day, game.latest, game.first], [TWO, False, first_standing(TWO)])
        self.assertIs(Game(TWO, latest=True).latest, True)

    def test_no_lines_at_all(self):
        day = day_of([0, 2], *ROWS, "vehicle a", "page day > day", "start day")
        game, home = Game(day), ((2, -1, 0),)
        self.assertEqual(sorted(game), [(-1, 0, home, ()), (0, 0, home, ()), (0, 1, home, ()), (0, 2, home, ())])
        self.assertEqual([game.rank(standing) for standing in game], [None] * 4)

    def test_the_latest_comings_alone(self):
        game, home = Game(TWO, latest=True), ((2, -1, 0),)
        self.assertEqual(sorted(game), [(-1, 0, home * 2, ()), (0, 0, home, ((0, -1, 1),)), (0, 1, home, ((0, 1, 1),)),
                                        (0, 2, home, ((0, 0, 1),))])
        early = {(0, 0, home * 2, ())}
        self.assertEqual(set(Game(TWO)), set(game) | early)

    def test_behind_a_standing_without_an_answer_nothing_is_lost(self):
        # Without an answer to one page, the game still looks behind the other.
        day = day_of([0, 2], "round 3", "line a 2 2 use 2 late 0", "cable 1 2", "patience 0", "vehicle a",
                     "page day a > day night", "page night > day night", "start day")
        game = Game(day)
        self.assertEqual(set(game), set(tree_by_words(day)))
        standing = (0, 0, ((1, -1, 0),), ())
        self.assertEqual([answers(day, standing, news) for news in game.news(standing)], [[], [((), (0,))]])
        self.assertIn((1, 1, ((2, -1, 0),), ()), game)

    def test_as_a_collection(self):
        for day in some_small_days(570, 20):
            try:
                game = Game(day, most=200)
            except TooMany:
                continue
            rows = game.standings()
            self.assertEqual([list(game), len(game)], [rows, len(rows)])
            self.assertEqual([rows, list(game)], [game.standings(), game.standings()])
            self.assertEqual(len(set(rows)), len(rows))
            self.assertTrue(all(standing in game for standing in rows))
            self.assertFalse((-1, 1, (), ()) in game or (len(day.depot.book), 0, (), ()) in game or () in game)

    def test_most(self):
        for latest, number in ((False, 5), (True, 4)):
            self.assertEqual(len(Game(TWO, latest=latest, most=number)), number)
            for most in range(1, number):
                self.refused(TooMany, [most], Game, TWO, latest=latest, most=most)

    def test_most_is_2000_by_itself(self):
        self.assertEqual([len(Game(great_day(3))), len(Game(great_day(4), most=2744))], [1959, 2744])
        self.refused(TooMany, [2000], Game, great_day(4))
        self.refused(TooMany, [2743], Game, great_day(4), most=2743)


class News(Case):
    def test_news(self):
        game = Game(TWO)
        standing = (0, 2, ((2, -1, 0),), ((0, 0, 1),))
        self.assertEqual([game.news(standing), Game(TWO, latest=True).news(standing)], [[(0, ()), (0, (0,))], [(0, ())]])
        self.assertEqual(game.news(game.first), [(0, ())])
        self.fresh(lambda: game.news(standing), lambda rows: rows.append(9))
        self.keeps(game.news, standing)

    def test_unknown_standings(self):
        for game in (Game(TWO), Game(TWO, latest=True)):
            for standing in (STRANGE, (0, 1, ((2, -1, 0),), ()), (-1, 0, ((2, -1, 0),), ())):
                self.assertFalse(standing in game)
                self.refused(UnknownStanding, [], game.news, standing)
                self.refused(UnknownStanding, [], game.rank, standing)
        early = (0, 0, ((2, -1, 0),) * 2, ())
        self.assertEqual(Game(TWO).news(early), [(0, ())])
        self.refused(UnknownStanding, [], Game(TWO, latest=True).news, early)


class Ranks(Case):
    def test_one_vehicle(self):
        # It goes out at 0, uses one of two units, is home at 3 and goes out; at 6 it is home again, without a unit.
        game = Game(ONE)
        row = chain_of(game)
        self.assertEqual([game.rank(standing) for standing in row], [7, 6, 5, 4, 3, 2, 1])
        self.assertEqual(row[-1], (0, 0, (), ((0, -1, 0),)))
        self.assertEqual(answers(ONE, row[-1], (0, (0,))), [])

    def test_two_vehicles(self):
        game = Game(TWO)
        self.assertEqual([game.rank(standing) for standing in game], [None] * 5)

    def test_the_foe_need_not_let_a_page_come(self):
        game = Game(REST)
        self.assertEqual(game.rank(game.first), 10)
        self.assertEqual(game.rank((0, 0, (), ((0, -1, 0),))), 1)
        easy = day_of([0, 2], *ROWS, "vehicle a", "page day a > night", "page night > day", "start night")
        self.assertIsNone(Game(easy).rank(Game(easy).first))

    def test_no_answer_to_the_first_news(self):
        day = day_of([0, 2], *ROWS, "vehicle a", "bar a a", *PAGE)
        game = Game(day)
        self.assertEqual([len(game), game.rank(game.first)], [1, 1])

    def test_step_by_step_against_trying(self):
        kinds = {False: 0, True: 0}
        for day in some_small_days(58, 250):
            for latest in (False, True):
                try:
                    game = self.keeps(Game, day, latest=latest, most=150)
                except TooMany:
                    continue
                tree = tree_by_words(day, latest)
                ranks = ranks_by_words(tree)
                self.assertEqual(set(game), set(tree))
                kinds[game.first in ranks] += 1
                for standing in tree:
                    self.assertEqual(game.news(standing), sorted(tree[standing]))
                    self.assertEqual(game.rank(standing), ranks.get(standing))
                self.assertEqual(self.keeps(game.rank, game.first), ranks.get(game.first))
        self.assertGreater(min(kinds.values()), 50)

    def test_too_many_exactly_if_there_are_more(self):
        for day in some_small_days(580, 40, lines=(1, 2)):
            try:
                number = len(Game(day, most=150))
            except TooMany:
                continue
            self.assertEqual([len(Game(day, most=number)), len(tree_by_words(day))], [number, number])
            if number > 1:
                self.refused(TooMany, [number - 1], Game, day, most=number - 1)


if __name__ == "__main__":
    unittest.main()
