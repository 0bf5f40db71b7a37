"""Commands, points [78] and [79]."""

import random
import unittest

from depotday.commands import replay, run, would
from depotday.desks import Desk
from depotday.errors import (BadCommand, BadNumber, DepotError, NewsHeard, NoAnswer, NotHeard, NotHome, NothingToRedo,
                             NothingToUndo, NotOut, TooMany, WrongLines, WrongPage)
from helping import GREAT, Case, day_of, great_day, some_ringed_days, some_small_days
from playing import can_be_done, copied, play, tells, tells_more
from test_desks import DAY, NOTHING, SENT, day_with, desk_behind

EXAMPLE = day_of([0, 2], "round 3", "line a 2 2 use 1 late 1", "cable 1 2", "patience 0", "vehicle a", "vehicle a",
                 "page day a > day", "start day")
TEXT = "hear page day\nanswer >\nhear\nanswer a 1 b 0 >"
COMMANDS = ("follow", "undo", "redo", "hear", "hear 0", "hear 0 2", "hear 999", "hear page day", "hear page day 0 2",
            "hear page page", "hear page 0", "hear page 0 0", "hear page a_b-C!", "hear page hear 1", "answer >",
            "answer > 0", "answer > 2 1", "answer a 1 >", "answer a 1 > 0", "answer b 0 a 1 > 2 0", "answer 0 0 >",
            "answer page 1 >", "answer a 999 > 999", "answer a 1 a 1 > 0 0")
NO_COMMANDS = ("", " ", "hear page", "hear page ", "hear page >", "hear page > 0", "hear ", " hear", "hear  0", "hear 00",
               "hear 01", "hear 1000", "hear -1", "hear +1", "hear x", "hear 0 page day", "hear page day x",
               "hear page day page day", "hear page day ", "hear 0 ", "Hear", "hear,0", "heard", "answer", "answer ",
               "answer > ", "answer  >", "answer a >", "answer a 1", "answer a 1 0 >", "answer a x >", "answer a 01 >",
               "answer a 1 > x", "answer a 1 > > 0", "answer > 0 >", "answer > 00", "answer 1 a >", "answer  1 >",
               "answer a  >", "answer a 1000 >", "answer a -1 >", "answer a > 1", "follow 0", "follow ", " follow",
               "undo undo", "redo 1", "Undo", "redo\t", "page day", ">", "a 1 > 0", "hear > 0", "answer > 1.0")


class CommandCase(Case):
    def fails(self, number, why, call, *args, **more):
        """The call raises BadCommand with this number, and from an error of this class with these values."""
        with self.assertRaises(DepotError) as caught:
            call(*args, **more)
        error = caught.exception
        self.assertIs(type(error), BadCommand)
        self.assertEqual(error.number, number)
        if why is None:
            self.assertEqual([error.why, error.__cause__], [None, None])
        else:
            self.assertIs(error.__cause__, error.why)
            self.assertIs(type(error.why), why[0])
            self.assertEqual(list(vars(error.why).values()), list(why[1:]))


class Running(CommandCase):
    def test_example(self):
        desk = Desk(EXAMPLE)
        self.assertEqual([run(desk, "hear page day\nanswer a 0 >"), desk.now, desk.out(), desk[0], desk.log],
                         [2, (0, 1), [(0, "a", 1)], (1, 1, "a", 0), ["hear page day", "answer a 0 >"]])

    def test_the_empty_text(self):
        for whole in (False, True):
            desk = desk_behind(*SENT)
            before = tells_more(desk)
            self.assertEqual(run(desk, "", whole=whole), 0)
            self.assertEqual(tells_more(desk), before)

    def test_the_number_of_the_commands(self):
        for whole in (False, True):
            self.assertEqual([run(Desk(DAY), "\n".join(TEXT.split("\n")[:number]), whole=whole) for number in range(5)],
                             [0, 1, 2, 3, 4])
            self.assertEqual(run(Desk(DAY), TEXT + "\nundo\nundo\nredo\nundo", whole=whole), 8)

    def test_the_same_as_calls(self):
        desk = Desk(DAY)
        run(desk, TEXT)
        self.assertEqual(tells_more(desk), tells_more(desk_behind(*SENT)))
        run(desk, "hear\nanswer >\nhear\nanswer >\nhear page day 1 0")
        self.assertEqual([desk.home(), desk.log[-1]], [[2, 1, 0], "hear page day 0 1"])
        other = desk_behind(*SENT, (), NOTHING, (), NOTHING)
        other.hear(0, 1, page="day")
        self.assertEqual(tells_more(desk), tells_more(other))

    def test_orders_and_vehicles_in_any_order(self):
        for row in ("answer a 1 b 0 >", "answer b 0 a 1 >"):
            desk = desk_behind(*SENT[:3])
            self.assertEqual([run(desk, row), desk.log[-1]], [1, "answer a 1 b 0 >"])
        wide = day_with(cable="cable 2 3")
        desk = desk_behind(*SENT, (), NOTHING, (), NOTHING, day=wide)
        run(desk, "hear page day 0 1\nanswer > 1 0")
        self.assertEqual(desk.log[-2:], ["hear page day 0 1", "answer > 0 1"])

    def test_follow_undo_and_redo(self):
        desk, other = Desk(DAY), Desk(DAY)
        run(desk, "hear page day\nfollow\nhear\nfollow\nundo\nredo\nundo\nundo")
        other.hear(page="day")
        other.follow()
        other.hear()
        other.follow()
        for call in (other.undo, other.redo, other.undo, other.undo):
            call()
        self.assertEqual(tells_more(desk), tells_more(other))

    def test_commands_and_lines_that_are_none(self):
        desks = [desk_behind(*deeds) for deeds in ((), ("day",), SENT, SENT + ((),))]
        for row in COMMANDS:
            for desk in desks:
                try:
                    self.assertEqual(run(copied(desk), row), 1)
                except BadCommand as error:
                    self.assertEqual([error.number, error.why is None], [1, False], row)
        for row in NO_COMMANDS:
            for desk in desks:
                # The empty text has no commands, but an empty line is none.
                self.fails(1, None, run, copied(desk), row or "\n")

    def test_words_are_passed_on(self):
        desk = desk_behind(*SENT[:2])
        self.fails(1, (WrongPage, "day"), run, desk, "hear page day 0 2")
        self.fails(1, (NotOut, 0), run, desk, "hear 0")
        self.fails(1, (WrongPage, ""), run, Desk(DAY), "hear")
        self.fails(1, (WrongPage, "0"), run, Desk(DAY), "hear page 0")
        self.fails(1, (WrongPage, "page"), run, Desk(DAY), "hear page page")
        self.fails(1, (NotOut, 7), run, Desk(DAY), "hear page day 7 0")
        desk = desk_behind(*SENT[:3])
        self.fails(1, (WrongLines,), run, desk, "answer 0 0 >")
        self.fails(1, (NotHome, 999), run, desk, "answer b 0 a 999 > 7")
        self.fails(1, (NotHome, 7), run, desk, "answer b 0 a 1 > 7 8")

    def test_errors_of_calls(self):
        self.fails(1, (NotHeard,), run, Desk(DAY), "follow")
        self.fails(1, (NothingToUndo,), run, Desk(DAY), "undo")
        self.fails(1, (NothingToRedo,), run, Desk(DAY), "redo")
        self.fails(2, (NewsHeard,), run, Desk(DAY), "hear page day\nhear page day")
        none = day_with(turns=("vehicle a", "vehicle a", "bar a a"))
        self.fails(4, (NoAnswer,), run, Desk(none), "hear page day\nfollow\nhear\nfollow\nfollow")

    def test_the_first_middle_and_last_line(self):
        rows, blank = TEXT.split("\n"), Desk(DAY)
        for at in range(4):
            for wrong, why in (("no", None), ("", None), ("hear 9 9", None), ("redo", (NothingToRedo,))):
                if wrong == "hear 9 9":
                    why = (NewsHeard,) if at % 2 else (WrongPage, "") if at == 0 else (NotOut, 9)
                text = "\n".join(rows[:at] + [wrong] + rows[at:])
                behind, desk = copied(blank), copied(blank)
                run(behind, "\n".join(rows[:at]))
                self.fails(at + 1, why, run, desk, text)
                # What the lines before it did stays done.
                self.assertEqual(tells_more(desk), tells_more(behind))
                desk = copied(blank)
                self.fails(at + 1, why, run, desk, text, whole=True)
                self.assertEqual(tells_more(desk), tells_more(blank))
        self.fails(5, None, run, Desk(DAY), TEXT + "\n")
        self.fails(1, None, run, Desk(DAY), "\n" + TEXT)
        self.fails(1, None, run, Desk(DAY), "\n")

    def test_a_line_is_looked_at_when_its_turn_comes(self):
        desk = Desk(DAY)
        self.fails(2, (NewsHeard,), run, desk, "hear page day\nhear\nno command")
        self.assertEqual(desk.log, ["hear page day"])

    def test_whole_restores_what_can_be_taken_back_and_done_again(self):
        for memory in (0, 1, 3, 50):
            # One deed can be done again, and as many can be taken back as are remembered.
            desk = desk_behind(*SENT, ())
            desk.undo()
            desk.remember(memory)
            before = tells_more(desk)
            self.assertEqual([before[1], before[3]], [min(4, memory), 1])
            for text in ("redo\nredo", "undo\nno", "hear\nfollow\nhear 9", "redo\nfollow\nundo\nundo\nno",
                         "undo\nundo\nanswer >\nno", "hear\nundo\nredo\nredo"):
                other = copied(desk)
                with self.assertRaises(BadCommand) as caught:
                    run(other, text)
                self.assertNotEqual(caught.exception.number == 1, tells_more(other) != before)
                why = caught.exception.why
                why = why and (type(why), *vars(why).values())
                self.fails(caught.exception.number, why, run, desk, text, whole=True)
                self.assertEqual(tells_more(desk), before)

    def test_whole_or_not_is_the_same_without_a_fault(self):
        chance = random.Random(780)
        for day in some_small_days(780, 30):
            try:
                desk = Desk(day, memory=chance.choice((0, 3, 50)), most=300)
            except TooMany:
                continue
            other = copied(desk)
            play(chance, desk, day, 6)
            text = "\n".join(desk.log)
            third = copied(other)
            self.assertEqual([run(other, text), run(third, text, whole=True)], [len(desk.log)] * 2)
            self.assertEqual([tells_more(other), tells_more(third)], [tells_more(desk)] * 2)


class Would(CommandCase):
    def test_what_the_desk_then_tells(self):
        desk = desk_behind(*SENT)
        before = tells_more(desk)
        found = would(desk, "hear\nanswer >\nhear 0\nanswer > 0")
        self.assertIs(type(found), tuple)
        other = desk_behind(*SENT, (), NOTHING, (0,), ([], [0]))
        self.assertEqual(found, (other.now, other.home(), other.out(), other.given, other.used, other.danger()))
        self.assertEqual(found[:5], ((1, 0), [2, 0], [(1, "a", 0)], 1, 3))
        self.assertEqual(tells_more(desk), before)

    def test_heard_news_and_taken_back_deeds(self):
        desk = desk_behind("day", NOTHING)
        for text in ("", "hear", "undo", "undo\nundo", "undo\nredo", "hear\nfollow"):
            other, before = copied(desk), tells_more(desk)
            run(other, text)
            self.assertEqual(would(desk, text),
                             (other.now, other.home(), other.out(), other.given, other.used, other.danger()))
            self.assertEqual(tells_more(desk), before)
        # What was taken back before can still be done again.
        desk.undo()
        before = tells_more(desk)
        would(desk, "follow\nhear")
        self.assertEqual(tells_more(desk), before)
        desk.redo()

    def test_danger(self):
        desk = Desk(day_with(turns=("vehicle a", "vehicle a", "bar a a")))
        self.assertEqual([would(desk, text)[5] for text in ("", "hear page day", "hear page day\nfollow",
                                                            "hear page day\nfollow\nhear")], [2, 1, 1, 0])
        self.assertIsNone(would(Desk(EXAMPLE), "")[5])

    def test_refused(self):
        desk = desk_behind("day", NOTHING)
        desk.undo()
        before = tells_more(desk)
        for text, number, why in (("no", 1, None), ("follow\nhear 0", 2, (NotOut, 0)), ("redo\nredo", 2, (NothingToRedo,)),
                                  ("undo\nundo", 2, (NothingToUndo,)), ("follow\n", 2, None)):
            self.fails(number, why, would, desk, text)
            self.assertEqual(tells_more(desk), before)

    def test_a_full_memory_stays_as_it_was(self):
        desk = desk_behind(*SENT, memory=2)
        before = tells_more(desk)
        would(desk, "hear\nanswer >\nhear\nanswer >\nhear page day 0 1")
        self.assertEqual(tells_more(desk), before)
        self.assertEqual(can_be_done(desk.undo, NothingToUndo), 2)

    def test_what_is_returned_is_new(self):
        desk = desk_behind(*SENT)
        self.fresh(lambda: would(desk, "")[1], lambda rows: rows.append(9))
        self.fresh(lambda: would(desk, "")[2], lambda rows: rows.append(9))


class Replaying(CommandCase):
    def test_a_log(self):
        desk = desk_behind(*SENT)
        other = self.keeps(replay, DAY, desk.log)
        self.assertIs(type(other), Desk)
        self.assertEqual(tells_more(other), tells_more(desk))
        self.assertEqual(tells_more(replay(DAY, [])), tells_more(Desk(DAY)))

    def test_logs_of_plays_by_chance(self):
        chance = random.Random(79)
        rows = 0
        for day in some_small_days(79, 60) + some_ringed_days(79, 20):
            memory = chance.choice((0, 1, 5, 200))
            try:
                desk = Desk(day, memory=memory, most=300)
            except TooMany:
                self.refused(TooMany, [300], replay, day, ["no"], most=300)
                continue
            play(chance, desk, day, 8)
            for _ in range(chance.randint(0, 3)):
                if can_be_done(copied(desk).undo, NothingToUndo):
                    desk.undo()
            other = replay(day, desk.log, memory=memory, most=300)
            self.assertEqual(tells(other), tells(desk))
            rows += len(desk.log)
        self.assertGreater(rows, 300)

    def test_a_log_of_forgotten_deeds(self):
        desk = desk_behind(*SENT, memory=1)
        other = replay(DAY, desk.log, memory=1)
        self.assertEqual([tells_more(other), other.memory], [tells_more(desk), 1])
        self.assertEqual(can_be_done(replay(DAY, desk.log).undo, NothingToUndo), 4)

    def test_each_row_is_a_command(self):
        desk = replay(DAY, ["hear page day", "follow", "undo", "redo", "hear"])
        self.assertEqual([desk.now, desk.heard], [(0, 1), True])

    def test_rows_that_are_none(self):
        rows = ["hear page day", "answer a 0 >"]
        self.assertEqual(replay(EXAMPLE, rows).now, (0, 1))
        for wrong in NO_COMMANDS + ("hear\nhear", "hear page day\n", "\n", "hear page a\nb", "follow\n", "hear\n0"):
            self.fails(1, None, replay, EXAMPLE, [wrong])
            self.fails(2, None, replay, EXAMPLE, rows[:1] + [wrong] + rows[1:])
            self.fails(3, None, replay, EXAMPLE, rows + [wrong])
        self.fails(1, None, replay, EXAMPLE, ["hear page day\nanswer a 0 >"])
        self.fails(3, None, replay, EXAMPLE, rows + ["hear page\nday"])

    def test_errors_of_calls(self):
        self.fails(2, (NewsHeard,), replay, DAY, ["hear page day", "hear", "no"])
        self.fails(3, (NotOut, 2), replay, DAY, ["hear page day", "answer >", "hear 2"])

    def test_errors_of_the_desk(self):
        for memory in (-1, 201, GREAT):
            self.refused(BadNumber, [memory], replay, DAY, ["no"], memory=memory, most=1)
        self.refused(TooMany, [1], replay, DAY, ["no"], most=1)
        self.refused(TooMany, [2000], replay, great_day(4), [])
        self.assertEqual(replay(great_day(4), [], most=2744).memory, 50)


if __name__ == "__main__":
    unittest.main()
