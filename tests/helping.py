"""What several tests use."""

import random
import unittest

from depotday.books import Book
from depotday.errors import DepotError

EIGHT = list("abcdefgh")


def random_book(chance):
    """A book with up to four pages, in which some may never be reached."""
    names = chance.sample(["day", "night", "a", "b", "sunday"], chance.randint(1, 4))
    pages = [(name, chance.sample(EIGHT, chance.randint(0, 8)), chance.sample(names, chance.randint(1, len(names))))
             for name in names]
    return Book(pages, chance.sample(names, chance.randint(1, len(names))))


def some_books():
    chance = random.Random(9)
    return [random_book(chance) for _ in range(60)]


class Case(unittest.TestCase):
    """A test case that can look at refusals."""

    def refused(self, error, values, call, *args, **more):
        """The call raises exactly this error, with these values of its attributes in order."""
        with self.assertRaises(DepotError) as caught:
            call(*args, **more)
        self.assertIs(type(caught.exception), error)
        self.assertEqual(list(vars(caught.exception).values()), list(values))

    def fresh(self, read, change):
        """What `read` returns is new each time: changing it has no effect."""
        first, again = read(), read()
        self.assertIsNot(first, again)
        change(first)
        self.assertNotEqual(first, again)
        self.assertEqual(read(), again)
