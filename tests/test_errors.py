"""The errors of the interface: their places, their attributes and what they are."""

import unittest

from depotday import errors
from helping import Case

NONE = ("BadLoad BadRounds NotRinged NoNews NoAnswer UnknownStanding NewsHeard NotHeard WrongLines "
        "NothingToUndo NothingToRedo")
PART_PLACE = "BadBook BadNet BadClock BadTurns BadDepot BadChain BadPlan"
PART = "BadRun BadCable BadRule"
PLACE = "BadTimes BadPath"
NAME = "UnknownName WrongPage"
NUMBER = ("BadNumber BadMinute BadLine UnknownPage UnknownSpan UnknownEvent UnknownLine BrokenSpan LateTie "
          "TooMany WrongCharge")
VEHICLE = "UnknownVehicle AtHome NotHome Barred PassedOver NotOut TooEarly Overdue Short IsFull"

ALL = [(NONE, []), (PART_PLACE, [("part", "pages"), ("place", 3)]), (PART, [("part", "width")]),
       (PLACE, [("place", 2)]), (NAME, [("name", "a")]), (NUMBER, [("number", 7)]), (VEHICLE, [("vehicle", 4)]),
       ("ShutRing", [("ring", [(0, 1)])]), ("Overdrawn", [("lines", (0, 2))]),
       ("BadCommand", [("number", 1), ("why", None)])]
ROWS = [(name, pairs) for names, pairs in ALL for name in names.split()]


class Errors(Case):
    def test_all_stand_side_by_side_under_the_base(self):
        self.assertEqual(errors.DepotError.__bases__, (ValueError,))
        for name, _ in ROWS:
            kind = getattr(errors, name)
            self.assertEqual(kind.__bases__, (errors.DepotError,), name)
            self.assertEqual(kind.__module__, "depotday.errors")

    def test_there_are_no_others(self):
        defined = [name for name, value in vars(errors).items() if isinstance(value, type)]
        self.assertEqual(sorted(defined), sorted(["DepotError"] + [name for name, _ in ROWS]))

    def test_attributes_in_order(self):
        for name, pairs in ROWS:
            error = getattr(errors, name)(*[value for _, value in pairs])
            self.assertEqual(list(vars(error).items()), pairs, name)

    def test_each_takes_exactly_its_values(self):
        for name, pairs in ROWS:
            if pairs:
                values = [value for _, value in pairs]
                self.assertRaises(TypeError, getattr(errors, name), *values[1:])
                self.assertRaises(TypeError, getattr(errors, name), *values, 0)

    def test_each_can_be_caught_as_any_of_its_kinds(self):
        for name, pairs in ROWS:
            for kind in (getattr(errors, name), errors.DepotError, ValueError):
                with self.assertRaises(kind):
                    raise getattr(errors, name)(*[value for _, value in pairs])

    def test_lists_are_copied(self):
        ring = [(0, 1), (1, -1)]
        error = errors.ShutRing(ring)
        ring.append((2, 1))
        self.assertEqual(error.ring, [(0, 1), (1, -1)])
        self.assertIs(type(error.ring), list)

    def test_lines_are_a_tuple(self):
        self.assertIs(type(errors.Overdrawn((0, 1)).lines), tuple)

    def test_why_is_the_error_itself(self):
        why = errors.NotOut(3)
        self.assertIs(errors.BadCommand(2, why).why, why)


if __name__ == "__main__":
    unittest.main()
