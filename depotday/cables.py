"""Cables: how many units come home in a minute, and how many a vehicle holds."""

from depotday.errors import BadCable

MOST_WIDTH = 4
MOST_FULL = 6


class Cable:
    """A cable with its width, and the units of a full vehicle."""

    def __init__(self, width, full):
        if not 0 <= width <= MOST_WIDTH:
            raise BadCable("width")
        if not 0 <= full <= MOST_FULL:
            raise BadCable("full")
        self.width = width
        self.full = full

    def __eq__(self, other):
        return isinstance(other, Cable) and self.width == other.width and self.full == other.full
