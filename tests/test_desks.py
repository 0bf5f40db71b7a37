"""Desks, points [71] to [77] and [81]."""

import random
import unittest

from depotday.answering import after, answers
from depotday.desks import Desk
from depotday.errors import (BadNumber, Barred, IsFull, NewsHeard, NoAnswer, NotHeard, NotHome, NothingToRedo,
                             NothingToUndo, NotOut, Overdue, PassedOver, Short, TooEarly, TooMany, UnknownVehicle,
                             WrongCharge, WrongLines, WrongPage)
from depotday.games import Game
from depotday.queues import Queue
from depotday.standings import first_standing
from helping import GREAT, Case, day_of, great_day, some_ringed_days, some_small_days
from playing import (answer_by_chance, can_be_done, copied, hear_by_chance, out_order, play, queue_order, refused_by,
                     tells, tells_more)

ROWS = ("round 4", "line a 3 3 use 1 late 1", "line b 2 2 use 2 late 1")
TURNS = ("vehicle a", "vehicle b", "vehicle a", "bar a a")
PAGES = ("page day a b > day night", "page night b > day", "start day")
# Both lines go out in minute 1.
TIMES = [1, 0, 1, 3]


def day_with(patience=2, cable="cable 1 3", turns=TURNS, pages=PAGES, times=TIMES, rows=ROWS):
    return day_of(times, *rows, cable, f"patience {patience}", *turns, *pages)


DAY = day_with()


def desk_behind(*deeds, day=DAY, **more):
    """A desk that has done deeds: a page, a tuple of vehicles, or a pair of lists."""
    desk = Desk(day, **more)
    for deed in deeds:
        if isinstance(deed, str):
            desk.hear(page=deed)
        elif isinstance(deed, tuple) and deed and isinstance(deed[0], list):
            desk.answer(*deed)
        else:
            desk.hear(*deed)
    return desk


NOTHING = ([], [])
# Behind minute 1 vehicle 1 is out on a, vehicle 0 on b, and vehicle 2 is at home.
SENT = ("day", NOTHING, (), ([("b", 0), ("a", 1)], []))


class DeskCase(Case):
    def stays(self, desk, error, values, call, *args, **more):
        """The call is refused like this, and changes nothing."""
        self.assertIsNone(refused_by(desk, error, values, call, *args, **more))


class Making(DeskCase):
    def test_how_it_begins(self):
        desk = self.keeps(Desk, DAY)
        self.assertEqual([desk.now, desk.page, desk.heard, desk.standing, desk.given, desk.used, desk.memory, desk.log],
                         [(0, 0), "", False, first_standing(DAY), 0, 0, 50, []])
        self.assertEqual([len(desk), desk.home(), desk.out()], [3, [0, 1, 2], []])
        self.assertEqual([desk[vehicle] for vehicle in range(3)], [(3, 0, "a", 0), (3, 0, "b", 0), (3, 0, "a", 0)])

    def test_free_depots_have_their_vehicles_in_order_too(self):
        desk = Desk(day_with("none", turns=("vehicle b", "vehicle a", "vehicle b", "bar a a")))
        self.assertEqual([desk.home(), desk[0], desk[1]], [[0, 1, 2], (3, 0, "b", 0), (3, 0, "a", 0)])
        self.assertEqual(desk.standing[2], ((3, 0, 0), (3, 1, 0), (3, 1, 0)))

    def test_memory(self):
        for memory in (0, 1, 200):
            self.assertEqual(Desk(DAY, memory=memory).memory, memory)
        for memory in (-1, 201, GREAT, -GREAT):
            self.refused(BadNumber, [memory], Desk, DAY, memory=memory)
            self.refused(BadNumber, [memory], Desk, DAY, memory=memory, most=1)

    def test_most(self):
        number = len(Game(DAY))
        self.assertEqual(Desk(DAY, most=number).now, (0, 0))
        self.refused(TooMany, [number - 1], Desk, DAY, most=number - 1)
        self.refused(TooMany, [2000], Desk, great_day(4))
        self.assertEqual(Desk(great_day(4), most=2744).now, (0, 0))
        self.assertGreater(number, len(Game(DAY, latest=True)))

    def test_unknown_vehicles(self):
        desk = Desk(DAY)
        for vehicle in (-1, 3, GREAT, -GREAT):
            self.stays(desk, UnknownVehicle, [vehicle], desk.__getitem__, vehicle)

    def test_a_desk_is_not_iterated_over(self):
        self.assertRaises(TypeError, iter, Desk(DAY))


class Telling(DeskCase):
    def test_minute_by_minute(self):
        desk = Desk(DAY)
        self.assertIsNone(desk.hear(page="day"))
        self.assertEqual([desk.now, desk.page, desk.heard, desk.standing], [(0, 0), "day", True, first_standing(DAY)])
        self.assertIsNone(desk.answer([], []))
        self.assertEqual([desk.now, desk.page, desk.heard], [(0, 1), "day", False])
        self.assertEqual(desk.standing, (0, 1, ((3, 0, 0), (3, 1, 0), (3, 0, 0)), ()))
        desk.hear()
        desk.answer([("b", 0), ("a", 1)], [])
        self.assertEqual([desk.now, desk.home(), desk.out()], [(0, 2), [2], [(0, "b", 1), (1, "a", 2)]])
        self.assertEqual([desk[vehicle] for vehicle in range(3)], [(1, 1, "b", 0), (2, 1, "a", 0), (3, 0, "a", 0)])
        self.assertEqual([desk.given, desk.used], [0, 3])
        self.assertEqual(desk.standing, (0, 2, ((3, 0, 0),), ((0, 2, 2), (1, 1, 1))))
        desk.hear()
        desk.answer([], [])
        self.assertEqual([desk.now, desk.out()], [(0, 3), [(0, "b", 0), (1, "a", 1)]])
        desk.hear(0)
        self.assertEqual([desk.now, desk.home(), desk.out()], [(0, 3), [2, 0], [(1, "a", 1)]])
        self.assertEqual([desk[0], desk.standing[3]], [(1, 1, "b", 0), ((0, 1, 2), (1, 0, 1))])
        desk.answer([], [0])
        self.assertEqual([desk.now, desk.page, desk.given, desk[0]], [(1, 0), "", 1, (2, 1, "b", 0)])
        self.assertEqual(desk.standing, (0, 0, ((3, 0, 0), (2, 1, 0)), ((0, 0, 2),)))
        desk.hear(page="night")
        self.assertEqual([desk.page, desk.standing[0]], ["night", 0])
        desk.answer([], [0])
        self.assertEqual([desk.page, desk.standing], ["night", (1, 1, ((3, 0, 0), (3, 1, 0)), ((0, -1, 2),))])
        desk.hear(1)
        desk.answer([("b", 0)], [1])
        # Vehicle 2 stands before vehicle 0 and is passed over, vehicle 1 stands behind it.
        self.assertEqual([desk.home(), desk[2], desk[1], desk[0]],
                         [[2, 1], (3, 0, "a", 1), (3, 1, "a", 0), (1, 2, "b", 0)])
        self.assertEqual([desk.given, desk.used, desk.out()], [3, 5, [(0, "b", 1)]])
        self.assertEqual(desk.log, ["hear page day", "answer >", "hear", "answer a 1 b 0 >", "hear", "answer >",
                                    "hear 0", "answer > 0", "hear page night", "answer > 0", "hear 1",
                                    "answer b 0 > 1"])

    def test_late_vehicles(self):
        desk = desk_behind(*SENT, (), NOTHING, (), NOTHING)
        self.assertEqual([desk.now, desk.out()], [(1, 0), [(0, "b", -1), (1, "a", 0)]])

    def test_those_that_come_together_join_by_their_lines(self):
        desk = desk_behind(*SENT, (), NOTHING, (), NOTHING)
        desk.hear(0, 1, page="day")
        self.assertEqual(desk.home(), [2, 1, 0])
        free = desk_behind(*SENT, (), NOTHING, (), NOTHING, day=day_with("none"))
        free.hear(0, 1, page="day")
        self.assertEqual(free.home(), [2, 1, 0])

    def test_free_depots_count_who_is_passed_over(self):
        desk = Desk(day_with("none"))
        desk.hear(page="day")
        desk.answer([], [])
        desk.hear()
        desk.answer([("a", 1), ("b", 2)], [])
        self.assertEqual([desk[0], desk.standing], [(3, 0, "a", 1), (0, 2, ((3, 0, 0),), ((0, 2, 2), (1, 1, 1)))])

    def test_a_depot_without_bars(self):
        desk = Desk(day_with(turns=("vehicle a", "vehicle b")))
        self.assertEqual([desk[1], desk.standing[2]], [(3, 0, "b", 0), ((3, -1, 0), (3, -1, 0))])

    def test_what_is_returned_is_new(self):
        desk = desk_behind(*SENT, ())
        for read in (desk.home, desk.out, lambda: desk.log, lambda: desk.advice()[0], lambda: desk.advice()[1]):
            self.fresh(read, lambda rows: rows.append(9))
        for read in (desk.home, desk.out, desk.advice, desk.danger):
            self.keeps(read)


class Hearing(DeskCase):
    def test_news_heard(self):
        desk = desk_behind("day")
        self.stays(desk, NewsHeard, [], desk.hear, page="day")
        self.stays(desk, NewsHeard, [], desk.hear, 9, page="x")

    def test_pages(self):
        desk = Desk(DAY)
        for page in ("", "night", "Day", "nobody", "a"):
            self.stays(desk, WrongPage, [page], desk.hear, page=page)
            self.stays(desk, WrongPage, [page], desk.hear, 0, page=page)
        self.stays(desk, WrongPage, [""], desk.hear)
        desk = desk_behind(*SENT)
        for page in ("day", "night", "x"):
            self.stays(desk, WrongPage, [page], desk.hear, page=page)
        desk = desk_behind(*SENT, (), NOTHING, (0,), ([], [0]), "night", ([], [0]), (1,), ([("b", 0)], [1]), (), NOTHING,
                           (), NOTHING)
        self.assertEqual(desk.now, (2, 0))
        for page in ("", "night"):
            self.stays(desk, WrongPage, [page], desk.hear, 0, page=page)
        desk.hear(0, page="day")

    def test_not_out(self):
        desk = desk_behind(*SENT)
        for vehicles, wrong in (((2,), 2), ((3,), 3), ((-1,), -1), ((GREAT,), GREAT), ((-GREAT,), -GREAT), ((0, 0), 0),
                                ((0, 2, 9), 2), ((1, 0, 1), 1), ((1, 0, 4, 4), 4)):
            self.stays(desk, NotOut, [wrong], desk.hear, *vehicles)
        desk = desk_behind(*SENT[:3], ([("b", 2), ("a", 1)], []), (), NOTHING)
        self.assertEqual(desk.out(), [(1, "a", 1), (2, "b", 0)])
        for vehicle in (-1, -2, 0, 3):
            self.stays(desk, NotOut, [vehicle], desk.hear, vehicle)
        desk.hear(2)

    def test_too_early(self):
        desk = desk_behind(*SENT)
        self.stays(desk, TooEarly, [0], desk.hear, 0, 1)
        self.stays(desk, TooEarly, [1], desk.hear, 1, 0)
        desk = desk_behind(*SENT, (), NOTHING)
        self.stays(desk, TooEarly, [1], desk.hear, 0, 1)
        self.stays(desk, TooEarly, [1], desk.hear, 1)
        desk.hear(0)

    def test_overdue(self):
        desk = desk_behind(*SENT, (), NOTHING, (), NOTHING)
        for vehicles in ((), (1,)):
            self.stays(desk, Overdue, [0], desk.hear, *vehicles, page="day")
        desk.hear(0, page="day")
        # Two that are late: the least of them is told.
        times = [1, 0, 1, 0]
        both = Desk(day_with(times=times, rows=("round 4", "line a 3 3 use 1 late 1", "line b 3 3 use 1 late 1")))
        for deed in (lambda: both.hear(page="day"), lambda: both.answer([], []), both.hear,
                     lambda: both.answer([("a", 1), ("b", 0)], []), both.hear, lambda: both.answer([], []), both.hear,
                     lambda: both.answer([], []), lambda: both.hear(page="day"), lambda: both.answer([], [])):
            deed()
        self.stays(both, Overdue, [0], both.hear)
        self.stays(both, Overdue, [0], both.hear, 1)
        self.stays(both, Overdue, [1], both.hear, 0)

    def test_the_order_of_the_refusals(self):
        desk = desk_behind(*SENT, (), NOTHING, (), NOTHING)
        self.stays(desk, WrongPage, ["x"], desk.hear, 2, page="x")
        self.stays(desk, NotOut, [2], desk.hear, 2, page="day")
        early = desk_behind(*SENT)
        self.stays(early, NotOut, [2], early.hear, 0, 2)
        # Vehicle 0 must come, and vehicle 1 cannot yet.
        times = [2, 1, 1, 3]
        late = Desk(day_with(times=times))
        late.hear(page="day")
        late.answer([], [])
        late.hear()
        late.answer([("b", 0)], [])
        late.hear()
        late.answer([("a", 1)], [])
        late.hear()
        late.answer([], [])
        self.assertEqual(late.out(), [(0, "b", -1), (1, "a", 1)])
        self.stays(late, TooEarly, [1], late.hear, 1, page="day")
        self.stays(late, Overdue, [0], late.hear, page="day")

    def test_rows(self):
        desk = desk_behind(*SENT, (), NOTHING, (), NOTHING)
        desk.hear(1, 0, page="night")
        self.assertEqual(desk.log[-1], "hear page night 0 1")


class Answering(DeskCase):
    def setUp(self):
        self.desk = desk_behind("day", NOTHING, ())

    def test_not_heard(self):
        for desk in (Desk(DAY), desk_behind("day", NOTHING)):
            self.stays(desk, NotHeard, [], desk.answer, [], [])
            self.stays(desk, NotHeard, [], desk.answer, [("x", 9)], [9])

    def test_wrong_lines(self):
        for orders in ([], [("a", 1)], [("b", 0)], [("a", 1), ("a", 0)], [("a", 1), ("b", 0), ("b", 2)],
                       [("a", 1), ("c", 0)], [("a", 9)], [("A", 1), ("b", 0)], [("", 1), ("b", 0)]):
            self.stays(self.desk, WrongLines, [], self.desk.answer, orders, [9])
        desk = desk_behind("day")
        self.stays(desk, WrongLines, [], desk.answer, [("a", 1)], [])

    def test_lines_that_are_not_in_the_order_of_their_names(self):
        rows = ("round 4", "line b 3 3 use 1 late 1", "line a 2 2 use 2 late 1")
        day = day_with(rows=rows, turns=("vehicle a", "vehicle b", "vehicle b"))
        desk = desk_behind("day", NOTHING, (), day=day)
        self.stays(desk, WrongLines, [], desk.answer, [("a", 0)], [])
        self.stays(desk, NotHome, [8], desk.answer, [("a", 9), ("b", 8)], [])
        self.assertEqual([line for line, _ in desk.advice()[0]], ["b", "a"])
        desk.answer([("a", 0), ("b", 1)], [])
        self.assertEqual([desk.log[-1], desk.out()], ["answer b 1 a 0 >", [(0, "a", 1), (1, "b", 2)]])
        self.assertEqual(desk.standing[3], ((0, 2, 2), (1, 1, 1)))
        desk.hear()
        desk.answer([], [])
        desk.hear()
        desk.answer([], [])
        desk.hear(0, 1, page="day")
        self.assertEqual(desk.home(), [2, 1, 0])

    def test_vehicles_that_are_not_home(self):
        # The orders are looked at in the order of the lines of the clock.
        for orders, wrong in (([("a", 3), ("b", 0)], 3), ([("b", 7), ("a", -1)], -1), ([("b", 7), ("a", 1)], 7),
                              ([("a", 1), ("b", 1)], 1), ([("b", 0), ("a", GREAT)], GREAT)):
            self.stays(self.desk, NotHome, [wrong], self.desk.answer, orders, [9])
        # A vehicle that is out in the next round too.
        long = day_with(rows=("round 4", "line a 6 6 use 1 late 1", "line b 2 2 use 2 late 1"), times=[1, 3, 1, 3])
        desk = desk_behind(*SENT, (), NOTHING, (0,), ([], [0]), "day", ([], [0]), (), day=long)
        self.assertEqual([desk.now, desk.home(), desk.out()], [(1, 1), [2, 0], [(1, "a", 2)]])
        self.stays(desk, NotHome, [1], desk.answer, [("a", 1), ("b", 0)], [])
        self.stays(desk, NotHome, [1], desk.answer, [("a", 0), ("b", 1)], [])

    def test_too_few_units(self):
        poor = day_with(cable="cable 0 2", turns=("vehicle b", "vehicle b", "vehicle b"))
        desk = desk_behind(*SENT, (), NOTHING, (), NOTHING, day=poor)
        desk.hear(0, 1, page="day")
        desk.answer([], [])
        desk.hear()
        self.assertEqual([desk[vehicle][0] for vehicle in range(3)], [0, 1, 2])
        for orders, wrong in (([("a", 0), ("b", 1)], 0), ([("b", 1), ("a", 0)], 0), ([("a", 1), ("b", 0)], 0),
                              ([("b", 1), ("a", 2)], 1)):
            self.stays(desk, Short, [wrong], desk.answer, orders, [9])
        self.stays(desk, NotHome, [5], desk.answer, [("a", 0), ("b", 5)], [])
        desk.answer([("a", 1), ("b", 2)], [])

    def test_barred(self):
        for orders, wrong in (([("a", 0), ("b", 1)], 0), ([("b", 1), ("a", 2)], 2)):
            self.stays(self.desk, Barred, [wrong], self.desk.answer, orders, [9])
        barred = desk_behind("day", NOTHING, (), day=day_with(turns=("vehicle a", "vehicle b", "bar a a", "bar b b")))
        self.stays(barred, Barred, [0], barred.answer, [("b", 1), ("a", 0)], [])
        # Units are looked at for all orders before the bars.
        poor = day_with(cable="cable 0 2", turns=("vehicle b", "vehicle b", "vehicle b", "bar b b", "bar a a"),
                        pages=("page day a b > day night", "page night a > day", "start night"))
        desk = desk_behind("night", NOTHING, (), ([("a", 0)], []), (), NOTHING, (), NOTHING, day=poor)
        desk.hear(0, page="day")
        desk.answer([], [])
        desk.hear()
        self.stays(desk, Short, [0], desk.answer, [("a", 1), ("b", 0)], [])
        self.stays(desk, Barred, [2], desk.answer, [("a", 1), ("b", 2)], [])

    def test_passed_over(self):
        desk = desk_behind("day", NOTHING, (), day=day_with(0))
        self.stays(desk, PassedOver, [0], desk.answer, [("a", 1), ("b", 2)], [9])
        desk = desk_behind("day", NOTHING, (), day=day_with(0, turns=("vehicle b", "vehicle b", "vehicle b")))
        self.stays(desk, PassedOver, [0], desk.answer, [("a", 1), ("b", 2)], [])
        self.stays(desk, PassedOver, [1], desk.answer, [("a", 0), ("b", 2)], [])
        desk.answer([("a", 1), ("b", 0)], [])
        free = desk_behind("day", NOTHING, (), day=day_with("none"))
        free.answer([("a", 1), ("b", 2)], [])

    def charge_desk(self, cable="cable 1 3"):
        """Behind the news of minute 3: vehicle 0 has one unit, vehicle 2 is full, and vehicle 1 is out."""
        desk = desk_behind(*SENT, (), NOTHING, (0,), day=day_with(cable=cable))
        self.assertEqual([desk.home(), desk[0][0], desk[2][0]], [[2, 0], 1, 3])
        return desk

    def test_charge_not_home(self):
        desk = self.charge_desk()
        for charge, wrong in (([1], 1), ([3], 3), ([-1], -1), ([GREAT], GREAT), ([0, 0], 0), ([2, 0, 7, 1], 7)):
            self.stays(desk, NotHome, [wrong], desk.answer, [], charge)
        desk = desk_behind("day", NOTHING, ())
        for charge, wrong in (([1], 1), ([2, 0], 0), ([2, 2], 2)):
            self.stays(desk, NotHome, [wrong], desk.answer, [("a", 1), ("b", 0)], charge)

    def test_charge_full(self):
        desk = self.charge_desk()
        self.stays(desk, IsFull, [2], desk.answer, [], [2])
        self.stays(desk, IsFull, [2], desk.answer, [], [0, 2])
        desk = desk_behind("day")
        self.stays(desk, IsFull, [1], desk.answer, [], [1, 0])

    def test_charge_counts(self):
        desk = self.charge_desk()
        self.stays(desk, WrongCharge, [1], desk.answer, [], [])
        desk.answer([], [0])
        for width, count in ((0, 0), (2, 1), (4, 1)):
            desk = self.charge_desk(f"cable {width} 3")
            self.stays(desk, WrongCharge, [count], desk.answer, [], [] if count else [0])
            desk.answer([], [0] if count else [])
        wide = desk_behind(*SENT, (), NOTHING, (), NOTHING)
        wide.hear(0, 1, page="day")
        self.stays(wide, WrongCharge, [1], wide.answer, [], [0, 1])

    def test_the_order_of_the_refusals(self):
        desk = desk_behind("day", NOTHING, (), day=day_with(0))
        self.stays(desk, WrongLines, [], desk.answer, [("a", 9)], [9])
        self.stays(desk, NotHome, [9], desk.answer, [("b", 9), ("a", 0)], [9])
        self.stays(desk, Barred, [0], desk.answer, [("b", 2), ("a", 0)], [9])
        self.stays(desk, PassedOver, [0], desk.answer, [("b", 2), ("a", 1)], [9])
        self.stays(desk, NotHome, [9], desk.answer, [("b", 0), ("a", 1)], [2, 9])
        self.stays(desk, IsFull, [2], desk.answer, [("b", 0), ("a", 1)], [2])
        desk.answer([("b", 0), ("a", 1)], [])

    def test_arguments_stay_as_they_were(self):
        desk = self.charge_desk()
        orders, charge = [], [0]
        desk.answer(orders, charge)
        self.assertEqual([orders, charge], [[], [0]])
        orders, charge = [("b", 0), ("a", 1)], []
        self.desk.answer(orders, charge)
        charge.append(2)
        self.assertEqual([orders, self.desk.log[-1]], [[("b", 0), ("a", 1)], "answer a 1 b 0 >"])

    def test_rows(self):
        desk = desk_behind(*SENT, (), NOTHING, (), NOTHING, day=day_with(cable="cable 2 3"))
        desk.hear(1, 0, page="day")
        desk.answer([], [1, 0])
        self.assertEqual(desk.log[-1], "answer > 0 1")


class Advising(DeskCase):
    def test_not_heard(self):
        for desk in (Desk(DAY), desk_behind("day", NOTHING)):
            self.stays(desk, NotHeard, [], desk.advice)
            self.stays(desk, NotHeard, [], desk.follow)

    def test_no_answer(self):
        none = day_with(turns=("vehicle a", "vehicle a", "bar a a"))
        desk = desk_behind("day", NOTHING, (), day=none)
        self.assertEqual([desk.advice(), desk.danger()], [None, 0])
        self.stays(desk, NoAnswer, [], desk.follow)
        self.assertEqual([Desk(none).danger(), desk_behind("day", day=none).danger()], [2, 1])

    def test_orders_and_charge(self):
        desk = desk_behind("day", NOTHING, ())
        orders, charge = desk.advice()
        self.assertEqual([type(orders), type(charge), [line for line, _ in orders]], [list, list, ["a", "b"]])
        self.assertIn((orders, charge), [([("a", 1), ("b", 0)], []), ([("a", 1), ("b", 2)], [])])
        self.assertEqual(desk.follow(), (orders, charge))
        self.assertEqual([desk.now, desk.log[-1]], [(0, 2), f"answer a 1 b {orders[1][1]} >"])

    def test_the_best_answer(self):
        """Points [75] and [81] on days of every kind: by chance, advised, taken back."""
        chance = random.Random(75)
        kinds = {"held": 0, "rank": 0, "none": 0}
        for day in some_small_days(75, 120) + some_ringed_days(75, 40):
            try:
                desk, game = Desk(day, most=300), Game(day, most=300)
            except TooMany:
                continue
            for _ in range(8):
                self.assertEqual(desk.danger(), game.rank(desk.standing))
                news = hear_by_chance(chance, desk, day)
                found = [game.rank(after(day, desk.standing, news, answer))
                         for answer in answers(day, desk.standing, news)]
                if not found:
                    self.assertEqual([desk.advice(), desk.danger()], [None, 0])
                    kinds["none"] += 1
                    break
                best = None if None in found else max(found)
                self.assertEqual(desk.danger(), best)
                trial = copied(desk)
                orders, charge = trial.advice()
                trial.answer(orders, charge)
                self.assertEqual(game.rank(trial.standing), best)
                kinds["held" if best is None else "rank"] += 1
                followed = copied(desk)
                self.assertEqual([followed.follow(), tells(followed)], [(orders, charge), tells(trial)])
                answer_by_chance(chance, desk, day, news)
        self.assertGreater(min(kinds.values()), 30, kinds)

    def test_danger_stays_away_from_whoever_follows(self):
        chance = random.Random(76)
        followed = 0
        for day in some_small_days(76, 80) + some_ringed_days(76, 60):
            try:
                desk = Desk(day, most=400)
            except TooMany:
                continue
            if desk.danger() is None:
                for _ in range(25):
                    hear_by_chance(chance, desk, day)
                    self.assertIsNone(desk.danger())
                    desk.follow()
                    self.assertIsNone(desk.danger())
                followed += 1
        self.assertGreater(followed, 20)

    def test_early_comings_count(self):
        day = day_of([0, 0, 0, 1], "round 2", "line a 2 3 use 2 late 0", "line b 1 1 use 2 late 1", "cable 4 4",
                     "patience 0", "vehicle a", "vehicle b", "vehicle b", "page day a b > day", "start day")
        self.assertEqual([Desk(day).danger(), Game(day, latest=True).rank(first_standing(day))], [5, 9])


class Playing(DeskCase):
    """Point [81], and that the desk tells what standings tell."""

    def test_against_standings_and_a_queue(self):
        chance = random.Random(81)
        minutes, late = 0, 0
        for day in some_small_days(81, 90, lengths=(2, 4)) + some_ringed_days(81, 40):
            try:
                desk = Desk(day, most=1500)
            except TooMany:
                continue
            turns = day.depot.turns
            queue = Queue(turns.patience, turns.bars)
            for vehicle, name in enumerate(turns.vehicles):
                queue.come(vehicle, name)
            number, runs = 0, [0] * len(desk)
            for _ in range(15):
                self.assertEqual(desk.now, divmod(number, day.depot.clock.round_length))
                self.check(day, desk, queue, runs)
                away = out_order(desk, day)
                lasts = {vehicle: line for vehicle, line, _ in desk.out()}
                late += any(due < 0 for _, _, due in desk.out())
                news = hear_by_chance(chance, desk, day)
                for at in news[1]:
                    queue.come(away[at], lasts[away[at]])
                self.check(day, desk, queue, runs)
                standing = answer_by_chance(chance, desk, day, news)
                if standing is None:
                    break
                words = desk.log[-1].split(" ")
                orders = list(zip(words[1:words.index(">"):2], map(int, words[2:words.index(">"):2])))
                queue.send(orders)
                for _, vehicle in orders:
                    runs[vehicle] += 1
                self.assertEqual(desk.standing, standing)
                number += 1
                minutes += 1
        self.assertTrue(minutes > 300 and late > 20, (minutes, late))

    def check(self, day, desk, queue, runs):
        """The units add up, and the queue beside the desk is that of the desk."""
        full = day.depot.cable.full
        units = sum(desk[vehicle][0] for vehicle in range(len(desk)))
        self.assertEqual(units + desk.used, full * len(desk) + desk.given)
        self.assertEqual([desk.home(), [desk[vehicle][3] for vehicle in desk.home()]],
                         [queue.order(), [queue.passed(vehicle) for vehicle in queue]])
        self.assertEqual([desk[vehicle][2] for vehicle in desk.home()], [queue.last(vehicle) for vehicle in queue])
        self.assertEqual([desk[vehicle][1] for vehicle in range(len(desk))], runs)
        self.assertEqual([(desk[vehicle][2], desk[vehicle][3]) for vehicle, _, _ in desk.out()],
                         [(line, 0) for _, line, _ in desk.out()])
        self.assertEqual(sorted(desk.home() + [vehicle for vehicle, _, _ in desk.out()]), list(range(len(desk))))

    def test_standings_of_the_vehicles(self):
        """Before the news, the standing is that of the vehicles one by one."""
        chance = random.Random(810)
        for day in some_small_days(810, 60):
            try:
                desk = Desk(day, most=1500)
            except TooMany:
                continue
            names, bars = [line.name for line in day.depot.clock.lines], day.depot.turns.bars
            for _ in range(8):
                if desk.heard:
                    break
                home = [(desk[vehicle][0], names.index(desk[vehicle][2]) if bars else -1,
                         0 if day.depot.free else desk[vehicle][3]) for vehicle in queue_order(desk, day)]
                out = sorted((names.index(line), due, desk[vehicle][0]) for vehicle, line, due in desk.out())
                self.assertEqual([desk.standing[1:]], [(desk.now[1], tuple(home), tuple(out))])
                play(chance, desk, day, 1)


class TakingBack(DeskCase):
    def test_nothing_at_first(self):
        desk = Desk(DAY)
        self.stays(desk, NothingToUndo, [], desk.undo)
        self.stays(desk, NothingToRedo, [], desk.redo)

    def test_each_kind_of_deed(self):
        for deeds in ((), ("day",), ("day", NOTHING), SENT, SENT + ((), NOTHING, (0,))):
            desk = desk_behind(*deeds)
            before = tells(desk)
            kinds = [lambda: desk.follow(), lambda: desk.answer(*desk.advice())] if desk.heard else [
                lambda: desk.hear(page="day" if desk.now[1] == 0 else "")]
            for deed in kinds:
                deed()
                behind = tells(desk)
                self.assertNotEqual(behind, before)
                self.assertIsNone(desk.undo())
                self.assertEqual(tells(desk), before)
                self.assertIsNone(desk.redo())
                self.assertEqual(tells(desk), behind)
                desk.undo()
                self.assertEqual(tells(desk), before)

    def test_all_the_way_back_and_forth(self):
        chance = random.Random(760)
        desk = Desk(DAY, memory=200)
        told = [tells(desk)]
        for _ in range(6):
            news = hear_by_chance(chance, desk, DAY)
            told.append(tells(desk))
            answer_by_chance(chance, desk, DAY, news)
            told.append(tells(desk))
        for wanted in reversed(told[:-1]):
            desk.undo()
            self.assertEqual(tells(desk), wanted)
        self.stays(desk, NothingToUndo, [], desk.undo)
        for wanted in told[1:]:
            desk.redo()
            self.assertEqual(tells(desk), wanted)
        self.stays(desk, NothingToRedo, [], desk.redo)

    def test_another_deed_forgets_what_was_taken_back(self):
        for deed, back in ((lambda desk: desk.hear(page="day"), 2), (lambda desk: desk.follow(), 1),
                           (lambda desk: desk.answer([], []), 1)):
            desk = desk_behind("day", NOTHING)
            for _ in range(back):
                desk.undo()
            deed(desk)
            self.stays(desk, NothingToRedo, [], desk.redo)
            self.assertEqual(can_be_done(copied(desk).undo, NothingToUndo), 3 - back)

    def test_a_refused_call_forgets_nothing(self):
        desk = desk_behind(*SENT)
        desk.undo()
        self.stays(desk, WrongLines, [], desk.answer, [], [])
        self.stays(desk, NewsHeard, [], desk.hear)
        desk.undo()
        self.stays(desk, NotOut, [9], desk.hear, 9)
        self.stays(desk, NotHeard, [], desk.follow)
        desk.redo()
        desk.redo()
        self.assertEqual(desk.now, (0, 2))

    def test_memory_of_each_size(self):
        for memory in range(6):
            desk = desk_behind("day", NOTHING, (), ([("b", 0), ("a", 1)], []), memory=memory)
            log, told = desk.log, tells(desk)
            self.assertEqual(len(log), 4)
            number = min(4, memory)
            for _ in range(number):
                desk.undo()
            self.stays(desk, NothingToUndo, [], desk.undo)
            # What the forgotten deeds did stays.
            self.assertEqual([desk.log, desk.memory], [log[:4 - number], memory])
            for _ in range(number):
                desk.redo()
            self.assertEqual(tells(desk), told)

    def test_remember_and_assignment(self):
        def assign(desk, number):
            desk.memory = number
        for change in (lambda desk, number: self.assertIsNone(desk.remember(number)), assign):
            for number in range(6):
                desk = desk_behind("day", NOTHING, (), ([("b", 0), ("a", 1)], []))
                log = desk.log
                change(desk, number)
                self.assertEqual([desk.memory, desk.log], [number, log])
                # Forgotten deeds do not come back with a greater number.
                change(desk, 200)
                self.assertEqual([desk.memory, can_be_done(desk.undo, NothingToUndo)], [200, min(4, number)])

    def test_wrong_memory(self):
        desk = desk_behind(*SENT, memory=3)
        for number in (-1, 201, GREAT, -GREAT):
            self.stays(desk, BadNumber, [number], desk.remember, number)
            self.stays(desk, BadNumber, [number], setattr, desk, "memory", number)
        self.assertEqual(desk.memory, 3)

    def test_taking_back_does_not_change_the_memory(self):
        desk = desk_behind("day", NOTHING, memory=7)
        desk.memory = 9
        desk.undo()
        self.assertEqual(desk.memory, 9)
        desk.remember(4)
        desk.redo()
        self.assertEqual(desk.memory, 4)

    def test_redone_deeds_are_remembered_as_others(self):
        desk = desk_behind(*SENT)
        told = tells(desk)
        for _ in range(4):
            desk.undo()
        desk.memory = 1
        for _ in range(4):
            desk.redo()
        self.assertEqual(tells(desk)[:6] + tells(desk)[7:], told[:6] + told[7:])
        self.assertEqual(can_be_done(desk.undo, NothingToUndo), 1)
        self.assertEqual([desk.now, len(desk.log)], [(0, 1), 3])

    def test_memory_changes_keep_what_can_be_redone(self):
        desk = desk_behind(*SENT)
        desk.undo()
        desk.undo()
        desk.remember(0)
        self.stays(desk, NothingToUndo, [], desk.undo)
        desk.redo()
        self.stays(desk, NothingToUndo, [], desk.undo)
        desk.redo()
        self.assertEqual([desk.now, len(desk.log)], [(0, 2), 4])

    def test_the_log_is_that_of_the_deeds_not_taken_back(self):
        desk = desk_behind(*SENT, memory=2)
        rows = ["hear page day", "answer >", "hear", "answer a 1 b 0 >"]
        self.assertEqual(desk.log, rows)
        desk.undo()
        self.assertEqual(desk.log, rows[:3])
        desk.undo()
        self.assertEqual(desk.log, rows[:2])
        desk.redo()
        self.assertEqual(desk.log, rows[:3])
        desk.answer([("b", 2), ("a", 1)], [])
        self.assertEqual(desk.log, rows[:3] + ["answer a 1 b 2 >"])

    def test_desks_are_independent(self):
        desk, other = Desk(DAY), Desk(DAY)
        desk.hear(page="day")
        self.assertEqual([other.heard, other.log], [False, []])
        self.assertEqual(len(tells_more(other)), 5)


if __name__ == "__main__":
    unittest.main()
