"""Cables, point [26]."""

import unittest

from depotday.cables import Cable
from depotday.errors import BadCable
from helping import GREAT, Case


class Cables(Case):
    def test_attributes(self):
        for width, full in ((0, 0), (4, 6), (1, 2)):
            self.assertEqual(vars(Cable(width, full)), {"width": width, "full": full})

    def test_refused(self):
        for width in (-1, 5, GREAT, -GREAT):
            self.refused(BadCable, ["width"], Cable, width, 6)
            self.refused(BadCable, ["width"], Cable, width, 7)
        for full in (-1, 7, GREAT, -GREAT):
            self.refused(BadCable, ["full"], Cable, 4, full)
            self.refused(BadCable, ["full"], Cable, 0, full)

    def test_equal(self):
        self.assertTrue(Cable(1, 2) == Cable(1, 2))
        self.assertFalse(Cable(1, 2) != Cable(1, 2))
        for other in (Cable(2, 2), Cable(1, 1), Cable(2, 1), (1, 2)):
            self.assertFalse(Cable(1, 2) == other)
            self.assertTrue(Cable(1, 2) != other)


if __name__ == "__main__":
    unittest.main()
