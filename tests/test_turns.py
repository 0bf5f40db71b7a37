"""Turns, point [27]."""

import unittest

from depotday.errors import BadTurns
from depotday.turns import Turns
from helping import GREAT, Case


class AllTurns(Case):
    def test_attributes(self):
        turns = Turns(2, ["a", "b", "a"], [("b", "a"), ("a", "a")])
        self.assertEqual(vars(turns), {"patience": 2, "vehicles": ("a", "b", "a"), "bars": (("b", "a"), ("a", "a"))})
        self.assertEqual(vars(Turns(None, ["a"])), {"patience": None, "vehicles": ("a",), "bars": ()})
        self.assertEqual([Turns(0, ["a"], ()).bars, Turns(4, ["a"], (("a", "b"),)).bars], [(), (("a", "b"),)])

    def test_patience(self):
        for patience in (0, 1, 4, None):
            self.assertEqual(Turns(patience, ["a"]).patience, patience)
        for patience in (-1, 5, GREAT, -GREAT):
            self.refused(BadTurns, ["patience", 0], Turns, patience, ["a"])

    def test_vehicles(self):
        for number in (1, 5):
            self.assertEqual(Turns(0, ["abcdefgh"] * number).vehicles, ("abcdefgh",) * number)
        for number in (0, 6, 7):
            self.refused(BadTurns, ["vehicles", 0], Turns, 0, ["a"] * number)
        for name in ("", "A", "a b", "abcdefghi"):
            for at in (0, 1, 4):
                self.refused(BadTurns, ["vehicle", at], Turns, 0, ["a"] * at + [name] * (5 - at))

    def test_bars(self):
        pairs = [(first, second) for first in "abc" for second in "abc"]
        self.assertEqual(Turns(0, ["a"], pairs).bars, tuple(pairs))
        for bar in (("a",), (), ("a", "b", "c"), ("a", ""), ("A", "b"), ("a", "b c"), ("abcdefghi", "a")):
            for at in (0, 1, 4):
                self.refused(BadTurns, ["bar", at], Turns, 0, ["a"], pairs[:at] + [bar, bar])
        self.refused(BadTurns, ["bar", 2], Turns, 0, ["a"], [("a", "b"), ("b", "a"), ("a", "b"), ("", "")])
        self.refused(BadTurns, ["bar", 1], Turns, 0, ["a"], (("a", "a"), ("a", "a")))

    def test_the_first_fault_is_told(self):
        self.refused(BadTurns, ["patience", 0], Turns, 5, [], [()])
        self.refused(BadTurns, ["vehicles", 0], Turns, 4, [], [()])
        self.refused(BadTurns, ["vehicles", 0], Turns, 4, [""] * 6, [()])
        self.refused(BadTurns, ["vehicle", 1], Turns, 4, ["a", ""], [()])

    def test_what_is_passed_is_copied(self):
        vehicles, bars = ["a"], [("a", "b")]
        turns = self.keeps(Turns, 1, vehicles, bars)
        vehicles.append("b")
        bars.append(("b", "b"))
        self.assertEqual([turns.vehicles, turns.bars], [("a",), (("a", "b"),)])

    def test_equal(self):
        turns = Turns(2, ["a", "b"], [("b", "a"), ("a", "a")])
        self.assertTrue(turns == Turns(2, ["a", "b"], (("b", "a"), ("a", "a"))))
        self.assertFalse(turns != Turns(2, ["a", "b"], (("b", "a"), ("a", "a"))))
        for other in (Turns(1, ["a", "b"], turns.bars), Turns(None, ["a", "b"], turns.bars),
                      Turns(2, ["b", "a"], turns.bars), Turns(2, ["a", "b", "b"], turns.bars),
                      Turns(2, ["a", "b"], turns.bars[::-1]), Turns(2, ["a", "b"]), 2):
            self.assertFalse(turns == other)
            self.assertTrue(turns != other)
        self.assertFalse(Turns(0, ["a"]) == Turns(None, ["a"]))


if __name__ == "__main__":
    unittest.main()
