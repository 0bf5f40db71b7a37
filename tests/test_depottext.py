"""The text of a depot, points [31] and [32]."""

import random
import unittest

from depotday.books import Book
from depotday.cables import Cable
from depotday.clocks import Clock
from depotday.depots import Depot
from depotday.depottext import depot_text, read_depot
from depotday.errors import BadLine
from depotday.lines import Line
from depotday.turns import Turns
from helping import Case, random_depot

SHORT = "round 3\nline a 2 2 use 1 late 1\ncable 1 2\npatience 0\nvehicle a\npage day a > day\nstart day"
FULL = """round 5
line a 2 3 use 1 late 1
line b 7 8 use 2 late 0
tie a home b out 0 3
tie b home a out 10 14
cable 1 2
patience none
vehicle a
vehicle b
bar b b
bar a b
page day b a > day night
page night > day
page late b > night
start day late"""
ROWS = FULL.split("\n")
NAMES = [row.split(" ")[0] for row in ROWS]
FULL_DEPOT = Depot(
    Clock(5, [Line("a", 2, 3, 1, 1), Line("b", 7, 8, 2, 0)],
          [("a", "home", "b", "out", 0, 3), ("b", "home", "a", "out", 10, 14)]),
    Cable(1, 2), Turns(None, ["a", "b"], [("b", "b"), ("a", "b")]),
    Book([("day", ["b", "a"], ["night", "day"]), ("night", [], ["day"]), ("late", ["b"], ["night"])], ["late", "day"]))

# For each kind, lines that are wrong in the place of the first line of this kind in FULL.
WRONG = {
    "round": ["round", "round 1", "round 13", "round 0", "round -1", "round 05", "round x", "round 5 5", "round 1000",
              "round", "Round 5", "round +5", "round 5.", "round 1_1"],
    "line": ["line a 2 3 use 1 late", "line a 2 3 use 1 late 1 1", "line a 2 3 late 1 use 1", "line a 2 3 use 1 use 1",
             "line a 2 3 late 1 late 1", "line A 2 3 use 1 late 1", "line abcdefghi 2 3 use 1 late 1",
             "line a 0 3 use 1 late 1", "line a 25 25 use 1 late 1", "line a 3 2 use 1 late 1",
             "line a 2 7 use 1 late 1", "line a 8 11 use 1 late 1", "line a 2 3 use 7 late 1",
             "line a 2 3 use 1 late 4", "line a 02 3 use 1 late 1", "line a 2 3 use 01 late 1",
             "line a 2 -3 use 1 late 1", "line a b 3 use 1 late 1", "line a 2 3 use 1 late 00",
             "line a 2 3 use 1 late -1", "line a 2 3 use -1 late 1", "line"],
    "tie": ["tie a home b out 0", "tie a home b out 0 3 3", "tie a home c out 0 3", "tie c home b out 0 3",
            "tie a at b out 0 3", "tie a home b at 0 3", "tie a home a home 0 3", "tie a home b out 3 2",
            "tie a home b out 0 5", "tie a home b out 96 100", "tie a home b out 100 100", "tie a home b out 00 3",
            "tie a home b out 0 3x", "tie a home b out -1 3", "tie a home b out 0 1000", "tie", "tie home a b out 0 3"],
    "cable": ["cable", "cable 1", "cable 1 2 3", "cable 5 2", "cable 1 7", "cable -1 2", "cable 1 1", "cable 1 0",
              "cable 01 2", "cable 1 x", "cable 1 -2"],
    "patience": ["patience", "patience 5", "patience -1", "patience None", "patience 0 0", "patience 00",
                 "patience none none", "patience x"],
    "vehicle": ["vehicle", "vehicle c", "vehicle a b", "vehicle A", "vehicle ab", "vehicle abcdefghi"],
    "bar": ["bar", "bar a", "bar a b a", "bar a c", "bar c a", "bar A b"],
    "page": ["page", "page day", "page day a", "page day a >", "page day >", "page > day", "page day b a day night",
             "page day b b > day", "page day c > day", "page Day a > day", "page abcdefghi a > day",
             "page day a > day day", "page day a > Day", "page day a > day > night", "page day a > abcdefghi",
             "page day a > day x night day", "page day A > day", "page day > > day", "page day a >day", "page >",
             "page day a > 1"],
    "start": ["start", "start x", "start day day", "start day x", "start Day", "start day late day", "start > day"],
}


def put(at, row):
    """The full text with another line in the place of one of its lines."""
    return "\n".join(ROWS[:at] + [row] + ROWS[at + 1:])


def put_before(at, row):
    return "\n".join(ROWS[:at] + [row] + ROWS[at:])


class Texts(Case):
    def test_the_text_of_a_depot(self):
        self.assertEqual(depot_text(FULL_DEPOT), FULL)
        self.assertEqual(read_depot(FULL), FULL_DEPOT)
        depot = Depot(Clock(3, [Line("a", 2, 2, 1, 1)]), Cable(1, 2), Turns(0, ["a"]), Book([("day", ["a"], ["day"])],
                                                                                           ["day"]))
        self.assertEqual([depot_text(depot), read_depot(SHORT)], [SHORT, depot])

    def test_every_depot_is_read_again(self):
        chance = random.Random(33)
        for _ in range(300):
            depot = random_depot(chance, lengths=(2, 12), ties=(0, 8))
            text = depot_text(depot)
            self.assertTrue(read_depot(text) == depot)
            self.assertEqual(depot_text(read_depot(text)), text)

    def test_followers_and_starts_in_any_order(self):
        text = put(11, "page day b a > night day").replace("start day late", "start late day")
        self.assertEqual([read_depot(text), depot_text(read_depot(text))], [FULL_DEPOT, FULL])

    def test_names_that_are_words_of_the_text(self):
        text = ("round 4\nline use 1 1 use 0 late 0\nline out 1 1 use 0 late 0\ntie out out use home 0 3\n"
                "cable 0 0\npatience 4\nvehicle use\nbar use out\npage none use > start\npage start out > none\n"
                "start start none")
        self.assertEqual(depot_text(read_depot(text)), text.replace("start start none", "start none start"))

    def test_the_least_and_the_greatest_numbers(self):
        for text in (SHORT.replace("round 3", "round 12"), SHORT.replace("a 2 2 use 1 late 1", "a 1 3 use 2 late 2"),
                     SHORT.replace("round 3", "round 12").replace("a 2 2 use 1 late 1", "a 24 24 use 6 late 3").replace(
                         "cable 1 2", "cable 4 6"), SHORT.replace("use 1", "use 0").replace("1 2", "0 0"),
                     SHORT.replace("patience 0", "patience 4"), SHORT.replace("\ncable", "\ntie a home a out 97 99\ncable"),
                     SHORT.replace("\nvehicle a", "\nvehicle a" * 5), SHORT.replace("\ncable", "\ntie a home a out 0 0"
                                                                                    * 8 + "\ncable")):
            self.assertEqual(depot_text(read_depot(text)), text)

    def test_nothing_is_changed(self):
        self.keeps(depot_text, FULL_DEPOT)


class WrongLines(Case):
    def test_example(self):
        self.refused(BadLine, [2], read_depot, "round 3\nline a 2 2 use 1 late 3")

    def test_lines_that_are_wrong_in_themselves(self):
        for kind, rows in WRONG.items():
            at = NAMES.index(kind)
            for row in rows:
                self.refused(BadLine, [at + 1], read_depot, put(at, row))
                self.refused(BadLine, [at + 1], read_depot, "\n".join(ROWS[:at] + [row]))

    def test_every_line_begins_with_its_kind(self):
        for at, row in enumerate(ROWS):
            for wrong in ("", " ", row + " ", " " + row, row.replace(" ", "  ", 1), row[1:], "x" + row, "#" + row,
                          row.capitalize(), row.replace(" ", "", 1)):
                self.refused(BadLine, [at + 1], read_depot, put(at, wrong))
            self.refused(BadLine, [at + 1], read_depot, put_before(at, ""))

    def test_empty_lines(self):
        self.refused(BadLine, [1], read_depot, "")
        self.refused(BadLine, [1], read_depot, "\n")
        self.refused(BadLine, [1], read_depot, "\n" + FULL)
        self.refused(BadLine, [16], read_depot, FULL + "\n")
        self.refused(BadLine, [16], read_depot, FULL + "\n\n")

    def test_every_kind_stands_in_its_place(self):
        # Lines that could stand there if only their kind might, and what they can stand behind.
        fresh = {"round 5": [""], "line c 1 1 use 0 late 0": ["round", "line"],
                 "tie a home a out 0 3": ["line", "tie"],
                 "cable 1 2": ["line", "tie"], "patience 0": ["cable"], "vehicle a": ["patience", "vehicle"],
                 "bar a a": ["vehicle", "bar"], "page c a > c": ["vehicle", "bar", "page"], "start day": ["page"]}
        for at in range(len(ROWS) + 1):
            behind = NAMES[at - 1] if at else ""
            for row, lets in fresh.items():
                text = "\n".join(ROWS[:at] + [row])
                if behind not in lets:
                    self.refused(BadLine, [at + 1], read_depot, text)
                elif row != "start day":
                    self.refused(BadLine, [at + 2], read_depot, text)
        for text in ("\n".join(ROWS[:13] + ["start day"]), "\n".join(ROWS[:14] + ["start day"])):
            self.assertEqual(depot_text(read_depot(text)), text)

    def test_kinds_that_stand_once(self):
        for kind in ("round", "cable", "patience", "start"):
            at = NAMES.index(kind)
            self.refused(BadLine, [at + 2], read_depot, put_before(at, ROWS[at]))

    def test_kinds_that_must_stand(self):
        for kind in ("round", "line", "cable", "patience", "vehicle", "page", "start"):
            rows = [row for row, name in zip(ROWS, NAMES) if name != kind]
            self.refused(BadLine, [NAMES.index(kind) + 1], read_depot, "\n".join(rows))
        rows = [row for row, name in zip(ROWS, NAMES) if name not in ("tie", "bar")]
        self.assertEqual([read_depot("\n".join(rows)).clock.ties, read_depot("\n".join(rows)).turns.bars], [(), ()])

    def test_nothing_stands_behind_the_start(self):
        for row in ROWS + ["", "x", "start day"]:
            self.refused(BadLine, [16], read_depot, FULL + "\n" + row)

    def test_a_text_that_ends_too_early(self):
        for at in range(1, len(ROWS)):
            self.refused(BadLine, [at + 1], read_depot, "\n".join(ROWS[:at]))

    def test_more_than_there_may_be(self):
        lines = [f"line {name} 1 1 use 0 late 0" for name in "cdefg"]
        text = "\n".join(ROWS[:3] + lines[:2] + ROWS[3:])
        self.assertEqual(len(read_depot(text).clock.lines), 4)
        self.refused(BadLine, [6], read_depot, "\n".join(ROWS[:3] + lines + ROWS[3:]))
        self.assertEqual(len(read_depot("\n".join(ROWS[:4] + ROWS[3:4] * 6 + ROWS[4:])).clock.ties), 8)
        self.refused(BadLine, [12], read_depot, "\n".join(ROWS[:4] + ROWS[3:4] * 8 + ROWS[5:]))
        self.refused(BadLine, [12], read_depot, "\n".join(ROWS[:3] + ROWS[3:4] * 9 + ["x"]))
        self.assertEqual(len(read_depot("\n".join(ROWS[:9] + ["vehicle b"] * 3 + ROWS[9:])).turns.vehicles), 5)
        self.refused(BadLine, [13], read_depot, "\n".join(ROWS[:9] + ["vehicle b"] * 5 + ROWS[9:]))
        self.assertEqual(len(read_depot("\n".join(ROWS[:14] + ["page d > day"] + ROWS[14:])).book), 4)
        self.refused(BadLine, [16], read_depot, "\n".join(ROWS[:14] + ["page d > day", "page e > day"] + ROWS[14:]))

    def test_what_stands_above(self):
        # The same name again, a tie or a use before what it needs, the same bar again, the same page again.
        for at, row in ((2, "line a 7 8 use 2 late 0"), (10, "bar b b"), (12, "page day > day"),
                        (5, "cable 1 1"), (1, "line a 2 3 use 1 late 5"), (14, "start night night")):
            self.refused(BadLine, [at + 1], read_depot, put(at, row))
        self.refused(BadLine, [2], read_depot, "round 2\nline a 2 2 use 1 late 2")
        self.refused(BadLine, [2], read_depot, "round 2\nline a 5 5 use 1 late 1")
        self.refused(BadLine, [3], read_depot, "round 2\nline a 4 4 use 1 late 1\ntie a home a out 0 2")

    def test_followers_that_are_no_pages(self):
        for at, row in ((11, "page day b a > day x"), (12, "page night > x"), (13, "page late b > days")):
            self.refused(BadLine, [at + 1], read_depot, put(at, row))
        two = put(13, "page late b > x").replace("page night > day", "page night > x day")
        self.refused(BadLine, [13], read_depot, two)

    def test_unknown_followers_are_told_last(self):
        unknown = put(11, "page day b a > day x")
        self.refused(BadLine, [15], read_depot, unknown.replace("start day late", "start day x"))
        self.refused(BadLine, [16], read_depot, unknown + "\n")
        self.refused(BadLine, [15], read_depot, unknown.replace("\nstart day late", ""))
        self.refused(BadLine, [13], read_depot, unknown.replace("page night > day", "page night > day day"))
        self.refused(BadLine, [13], read_depot, unknown.replace("page night > day", "page x"))
        self.refused(BadLine, [12], read_depot, unknown)

    def test_the_first_wrong_line_is_told(self):
        self.refused(BadLine, [1], read_depot, FULL.replace("round 5", "round 1").replace("cable 1 2", "cable 5 2"))
        self.refused(BadLine, [6], read_depot, FULL.replace("start day", "start x").replace("cable 1 2", "cable 5 2"))


if __name__ == "__main__":
    unittest.main()
