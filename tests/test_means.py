"""Means, points [12] and [13], and what point [2] says of them."""

import itertools
import math
import random
import unittest
from fractions import Fraction

from depotday.books import Book
from depotday.errors import BadNumber
from depotday.means import Heavy, heaviest, most_in
from helping import Case, some_books

GREAT = 10 ** 9


def weight_of(book, weights, names):
    return sum(weights.get(line, 0) for name in names for line in book.lines_of(book.index(name)))


def lists_from(book, at, most):
    """All lists of at most so many pages that begin with a page, as lists of names."""
    rows, found = [[at]], [[]]
    for _ in range(most):
        found += [[book.names[page] for page in row] for row in rows]
        rows = [row + [after] for row in rows for after in book.followers_of(row[-1])]
    return found


def rings_by_trying(book):
    """All rings of up to four pages to which some walk comes."""
    for number in range(1, 5):
        for row in itertools.product(book.reachable(), repeat=number):
            if all(after in book.followers_of(before) for before, after in zip(row, row[1:] + row[:1])):
                yield [book.names[at] for at in row]


def some_pairs():
    """Books, each with weights."""
    chance = random.Random(12)
    return [(book, {line: chance.choice((0, 1, 2, 5, 99)) for line in chance.sample("abcdefgh", chance.randint(0, 8))})
            for book in some_books()]


class Heaviest(Case):
    def test_example(self):
        book = Book([("day", ["a", "b"], ["day", "night"]), ("night", [], ["day"])], ["night"])
        heavy = heaviest(book, {"a": 2, "b": 1})
        self.assertEqual([heavy.mean, heavy.ring, heavy.worths, most_in(book, {"a": 2, "b": 1}, 3)],
                         [(3, 1), ["day"], [0, 0], 6])

    def test_kinds(self):
        heavy = heaviest(Book([("p", ["a"], ["p"])], ["p"]), {"a": 99})
        self.assertIs(type(heavy), Heavy)
        self.assertEqual(vars(heavy), {"mean": (99, 1), "ring": ["p"], "worths": [0]})
        self.assertEqual([type(heavy.mean), type(heavy.ring), type(heavy.worths)], [tuple, list, list])

    def test_no_whole_number(self):
        book = Book([("p", ["a"], ["q"]), ("q", ["b"], ["r"]), ("r", [], ["p"])], ["q"])
        heavy = heaviest(book, {"a": 3, "b": 1})
        self.assertEqual([heavy.mean, sorted(heavy.ring), heavy.worths], [(4, 3), ["p", "q", "r"], [5, 0, 1]])
        heavy = heaviest(Book([("p", ["a"], ["q"]), ("q", [], ["p"])], ["p"]), {"a": 7})
        self.assertEqual([heavy.mean, heavy.worths], [(7, 2), [7, 0]])

    def test_lowest_terms(self):
        book = Book([("p", ["a"], ["q"]), ("q", ["b"], ["p"])], ["q"])
        for one, other, mean in ((3, 3, (3, 1)), (1, 3, (2, 1)), (0, 0, (0, 1)), (1, 0, (1, 2)), (99, 98, (197, 2))):
            heavy = heaviest(book, {"a": one, "b": other})
            self.assertEqual([heavy.mean, sorted(heavy.ring)], [mean, ["p", "q"]])

    def test_rings_of_one_page_and_of_several(self):
        pages = [("p", ["a"], ["p", "q"]), ("q", ["b"], ["p"])]
        self.assertEqual(heaviest(Book(pages, ["q"]), {"a": 5, "b": 4}).ring, ["p"])
        heavy = heaviest(Book(pages, ["q"]), {"a": 5, "b": 6})
        self.assertEqual([heavy.mean, sorted(heavy.ring), heavy.worths], [(11, 2), ["p", "q"], [0, 1]])

    def test_pages_that_no_walk_reaches(self):
        book = Book([("p", ["a"], ["p", "q"]), ("q", ["b"], ["q"]), ("r", ["a"], ["q"])], ["q"])
        heavy = heaviest(book, {"a": 99, "b": 2})
        self.assertEqual([heavy.mean, heavy.ring, heavy.worths], [(2, 1), ["q"], [None, 0, None]])

    def test_weights_that_are_all_nothing(self):
        book = Book([("p", ["a"], ["q"]), ("q", ["b"], ["p", "q"])], ["p"])
        for weights in ({}, {"a": 0, "b": 0}, {"c": 99}):
            heavy = heaviest(book, weights)
            self.assertEqual([heavy.mean, heavy.worths], [(0, 1), [0, 0]])
            self.assertIn(heavy.ring, (["p", "q"], ["q", "p"], ["q"]))

    def test_worths_of_pages_outside_of_the_ring(self):
        book = Book([("p", ["a"], ["q"]), ("q", ["b"], ["r"]), ("r", ["c"], ["r"])], ["p"])
        self.assertEqual(heaviest(book, {"a": 9, "b": 1, "c": 4}).worths, [5, 0, 0])
        self.assertEqual(heaviest(book, {"a": 1, "b": 9, "c": 4}).worths, [2, 5, 0])
        self.assertEqual(heaviest(book, {"a": 1, "b": 6, "c": 4}).worths, [0, 2, 0])

    def test_mean_and_ring_against_trying(self):
        for book, weights in some_pairs():
            heavy = heaviest(book, weights)
            means = [Fraction(weight_of(book, weights, ring), len(ring)) for ring in rings_by_trying(book)]
            num, den = heavy.mean
            self.assertEqual([Fraction(num, den), math.gcd(num, den)], [max(means), 1])
            self.assertGreaterEqual(den, 1)
            self.assertIn(heavy.ring, list(rings_by_trying(book)))
            self.assertEqual(Fraction(weight_of(book, weights, heavy.ring), len(heavy.ring)), max(means))
            self.assertEqual(len(set(heavy.ring)), len(heavy.ring))

    def test_worths_against_trying(self):
        for book, weights in some_pairs():
            heavy = heaviest(book, weights)
            num, den = heavy.mean
            wanted = [None] * len(book)
            for at in book.reachable():
                sums = [den * weight_of(book, weights, names) - num * len(names) for names in lists_from(book, at, 6)]
                wanted[at] = max(sums)
            self.assertEqual(heavy.worths, wanted)

    def test_nothing_is_changed_or_shared(self):
        book = Book([("p", ["a"], ["p"]), ("q", [], ["p"])], ["q"])
        weights = {"a": 3}
        heavy = heaviest(book, weights)
        weights["a"] = 50
        self.assertEqual(vars(heavy), {"mean": (3, 1), "ring": ["p"], "worths": [0, 0]})
        self.assertEqual(book, Book([("p", ["a"], ["p"]), ("q", [], ["p"])], ["q"]))
        most_in(book, weights, 5)
        self.assertEqual(weights, {"a": 50})

    def test_two_are_not_equal(self):
        book = Book([("p", ["a"], ["p"])], ["p"])
        self.assertFalse(heaviest(book, {}) == heaviest(book, {}))


class MostIn(Case):
    def test_few_rounds(self):
        book = Book([("p", ["a"], ["q"]), ("q", ["b"], ["p", "q"]), ("r", ["a"], ["r"])], ["q", "p"])
        self.assertEqual([most_in(book, {"a": 9, "b": 2}, rounds) for rounds in range(6)], [0, 9, 11, 20, 22, 31])
        self.assertEqual([most_in(book, {"a": 0, "b": 2}, rounds) for rounds in range(4)], [0, 2, 4, 6])
        self.assertEqual(most_in(book, {}, 7), 0)

    def test_many_rounds(self):
        book = Book([("p", list("abcdefgh"), ["p"])], ["p"])
        weights = dict.fromkeys("abcdefgh", 99)
        self.assertEqual([most_in(book, weights, 200), most_in(book, weights, 0)], [8 * 99 * 200, 0])

    def test_refused(self):
        book = Book([("p", ["a"], ["p"])], ["p"])
        for rounds in (-1, 201, GREAT, -GREAT):
            self.refused(BadNumber, [rounds], most_in, book, {}, rounds)

    def test_against_walks(self):
        for book, weights in some_pairs():
            for rounds in range(5):
                self.assertEqual(most_in(book, weights, rounds),
                                 max(weight_of(book, weights, walk) for walk in book.walks(rounds)))

    def test_what_follows(self):
        for book, weights in some_pairs():
            heavy = heaviest(book, weights)
            num, den = heavy.mean
            best = max(heavy.worths[at] for at in book.starts)
            for rounds in (0, 1, 2, 3, 7, 50, 199, 200):
                self.assertLessEqual(den * most_in(book, weights, rounds), num * rounds + best)


if __name__ == "__main__":
    unittest.main()
