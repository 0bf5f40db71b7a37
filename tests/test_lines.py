"""Lines, point [22]."""

import unittest

from depotday.errors import BadRun
from depotday.lines import Line
from helping import GREAT, Case


class Lines(Case):
    def test_attributes_and_written_form(self):
        line = Line("a", 2, 3, 1, 0)
        self.assertEqual(vars(line), {"name": "a", "least": 2, "most": 3, "use": 1, "late": 0})
        self.assertEqual(str(line), "line a 2 3 use 1 late 0")
        self.assertEqual(str(Line("abcdefgh", 10, 24, 6, 3)), "line abcdefgh 10 24 use 6 late 3")

    def test_the_least_and_the_greatest_numbers(self):
        for args in (("a", 1, 1, 0, 0), ("z", 24, 24, 6, 3), ("late", 1, 24, 3, 1)):
            self.assertEqual(list(vars(Line(*args)).values()), list(args))

    def test_refused(self):
        for name in ("", "A", "a b", "abcdefghi", "a1"):
            self.refused(BadRun, ["name"], Line, name, 2, 3, 1, 0)
        for least in (0, -1, 25, GREAT, -GREAT):
            self.refused(BadRun, ["least"], Line, "a", least, 3, 1, 0)
            self.refused(BadRun, ["least"], Line, "a", least, least, 1, 0)
        for most in (4, 0, -1, 25, GREAT, -GREAT):
            self.refused(BadRun, ["most"], Line, "a", 5, most, 1, 0)
        for use in (-1, 7, GREAT, -GREAT):
            self.refused(BadRun, ["use"], Line, "a", 2, 3, use, 0)
        for late in (-1, 4, GREAT, -GREAT):
            self.refused(BadRun, ["late"], Line, "a", 2, 3, 1, late)

    def test_the_first_wrong_part_is_told(self):
        self.refused(BadRun, ["name"], Line, "", 0, -1, 7, 4)
        self.refused(BadRun, ["least"], Line, "a", 0, -1, 7, 4)
        self.refused(BadRun, ["most"], Line, "a", 1, 0, 7, 4)
        self.refused(BadRun, ["use"], Line, "a", 1, 1, 7, 4)
        self.refused(BadRun, ["late"], Line, "a", 1, 1, 6, 4)

    def test_equal(self):
        self.assertTrue(Line("a", 2, 3, 1, 0) == Line("a", 2, 3, 1, 0))
        self.assertFalse(Line("a", 2, 3, 1, 0) != Line("a", 2, 3, 1, 0))
        for other in (Line("b", 2, 3, 1, 0), Line("a", 1, 3, 1, 0), Line("a", 2, 4, 1, 0), Line("a", 2, 3, 2, 0),
                      Line("a", 2, 3, 1, 1)):
            self.assertFalse(Line("a", 2, 3, 1, 0) == other)
            self.assertTrue(Line("a", 2, 3, 1, 0) != other)
        self.assertFalse(Line("a", 2, 3, 1, 0) == "line a 2 3 use 1 late 0")


if __name__ == "__main__":
    unittest.main()
