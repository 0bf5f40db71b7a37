"""Ledgers, point [80]."""

import random
import unittest

from depotday.commands import run
from depotday.desks import Desk
from depotday.errors import TooMany
from depotday.ledgers import ledger
from helping import Case, day_of, some_small_days
from playing import answer_by_chance, hear_by_chance

EXAMPLE = day_of([0, 2], "round 3", "line a 2 2 use 1 late 1", "cable 1 2", "patience 0", "vehicle a", "vehicle a",
                 "page day a > day", "start day")
HEADER = " no place    units  runs  due"
# A name of eight letters, and runs of more than nine minutes.
LONG = day_of([0, 0, 1, 2], "round 12", "line abcdefgh 24 24 use 6 late 3", "line b 1 1 use 0 late 2", "cable 4 6",
              "patience none", *["vehicle b"] * 5, "page p abcdefgh b > p", "start p")


def rows_by_words(desk):
    """Each line, column by column."""
    away = {vehicle: (line, due) for vehicle, line, due in desk.out()}
    rows = [["no".rjust(3), "place".ljust(8), "units".rjust(5), "runs".rjust(5), "due".rjust(4)]]
    for vehicle in range(len(desk)):
        place, due = away.get(vehicle, ("home", None))
        told = "-" if due is None else ("-" if due < 0 else "+") + str(abs(due))
        rows.append([str(vehicle).rjust(3), place.ljust(8), str(desk[vehicle][0]).rjust(5),
                     str(desk[vehicle][1]).rjust(5), told.rjust(4)])
    return [" ".join(row) for row in rows]


class Ledgers(Case):
    def test_example(self):
        desk = Desk(EXAMPLE)
        run(desk, "hear page day\nanswer a 0 >")
        self.assertEqual(ledger(desk), [" no place    units  runs  due", "  0 a            1     1   +1",
                                        "  1 home         2     0    -"])

    def test_vehicles_at_home(self):
        self.assertEqual(ledger(Desk(EXAMPLE)), [HEADER, "  0 home         2     0    -", "  1 home         2     0    -"])

    def test_due_now_and_late(self):
        desk = Desk(EXAMPLE)
        run(desk, "hear page day\nanswer a 0 >\nhear\nanswer >")
        self.assertEqual(ledger(desk)[1], "  0 a            1     1   +0")
        run(desk, "hear")
        self.assertEqual(ledger(desk)[1], "  0 a            1     1   +0")
        run(desk, "answer >")
        self.assertEqual(ledger(desk)[1], "  0 a            1     1   -1")
        run(desk, "hear page day 0\nanswer a 1 > 0")
        self.assertEqual(ledger(desk)[1:], ["  0 home         2     1    -", "  1 a            1     1   +1"])

    def test_long_names_and_numbers(self):
        desk = Desk(LONG, most=5000)
        run(desk, "hear page p\nanswer abcdefgh 3 >")
        self.assertEqual(ledger(desk)[3:5], ["  2 home         6     0    -", "  3 abcdefgh     0     1  +23"])
        self.assertEqual({len(row) for row in ledger(desk)}, {29})

    def test_many_runs(self):
        day = day_of([0, 1], "round 2", "line a 1 1 use 0 late 0", "cable 0 0", "patience 0", "vehicle a",
                     "page p a > p", "start p")
        desk = Desk(day, memory=0)
        for _ in range(12):
            run(desk, "hear page p\nfollow\nhear 0\nfollow")
        self.assertEqual(ledger(desk)[1], "  0 home         0    12    -")

    def test_against_words(self):
        chance = random.Random(80)
        late = 0
        for day in some_small_days(80, 200, lengths=(2, 4)):
            try:
                desk = Desk(day, most=400)
            except TooMany:
                continue
            for _ in range(8):
                self.assertEqual(self.keeps(ledger, desk), rows_by_words(desk))
                news = hear_by_chance(chance, desk, day)
                self.assertEqual(ledger(desk), rows_by_words(desk))
                late += any(due < 0 for _, _, due in desk.out())
                if answer_by_chance(chance, desk, day, news) is None:
                    break
        self.assertGreater(late, 3)

    def test_what_is_returned_is_new(self):
        desk = Desk(EXAMPLE)
        self.fresh(lambda: ledger(desk), lambda rows: rows.append(9))


if __name__ == "__main__":
    unittest.main()
