"""Books, points [9] to [11], and what point [2] says of them."""

import inspect
import itertools
import unittest

from depotday.books import Book
from depotday.errors import BadBook, BadNumber, UnknownName, UnknownPage
from helping import EIGHT, Case, some_books

GREAT = 10 ** 9


def walks_by_trying(book, rounds):
    """All walks with so many pages, by looking at every list of pages in order."""
    walks = []
    for row in itertools.product(range(len(book)), repeat=rounds):
        begins = not row or row[0] in book.starts
        if begins and all(after in book.followers_of(before) for before, after in zip(row, row[1:])):
            walks.append([book.names[at] for at in row])
    return walks


class Making(Case):
    def test_attributes(self):
        book = Book([("day", ["b", "a"], ["night", "day"]), ("night", [], ["day"])], ["night", "day"])
        self.assertEqual([book.names, book.starts, len(book)], [("day", "night"), (0, 1), 2])
        self.assertEqual([book.lines_of(0), book.lines_of(1)], [("b", "a"), ()])
        self.assertEqual([book.followers_of(0), book.followers_of(1)], [(0, 1), (0,)])
        self.assertEqual([book.index("day"), book.index("night")], [0, 1])

    def test_number_of_pages(self):
        names = ["d", "c", "b", "a", "e"]
        for number in (1, 2, 4):
            book = Book([(name, [], ["d"]) for name in names[:number]], ["d"])
            self.assertEqual([len(book), book.names], [number, tuple(names[:number])])
        self.refused(BadBook, ["pages", 0], Book, [], ["d"])
        self.refused(BadBook, ["pages", 0], Book, [(name, [], ["d"]) for name in names], ["d"])

    def test_names_of_pages(self):
        good = ("b", [], ["b"])
        for name in ("", "B", "two words", "abcdefghi", "a1", "start-"):
            self.refused(BadBook, ["page", 0], Book, [(name, [], [name])], [name])
            self.refused(BadBook, ["page", 1], Book, [good, (name, [], ["b"]), (name, [], ["b"])], ["b"])
        self.assertEqual(len(Book([("abcdefgh", [], ["abcdefgh"])], ["abcdefgh"])), 1)
        self.refused(BadBook, ["page", 1], Book, [good, good], ["b"])
        self.refused(BadBook, ["page", 2], Book, [good, ("a", [], ["b"]), good], ["b"])

    def test_lines(self):
        self.assertEqual(Book([("p", EIGHT[::-1], ["p"])], ["p"]).lines_of(0), tuple(EIGHT[::-1]))
        for lines in (EIGHT + ["i"], ["a", "a"], ["a", "b", "a"], [""], ["a", "B"], ["abcdefghi"], ["a b"],
                      EIGHT + ["a"]):
            self.refused(BadBook, ["page", 0], Book, [("p", lines, ["p"])], ["p"])
            self.refused(BadBook, ["page", 1], Book, [("q", [], ["q"]), ("p", lines, ["p"])], ["p"])

    def test_a_line_may_stand_on_many_pages_and_have_the_name_of_a_page(self):
        book = Book([("a", ["a", "b"], ["b"]), ("b", ["b", "a"], ["a"])], ["a"])
        self.assertEqual([book.lines_of(0), book.lines_of(1)], [("a", "b"), ("b", "a")])

    def test_followers(self):
        for followers in ([], ["x"], ["p", "x"], ["p", "p"], ["q", "p", "q"], [""]):
            self.refused(BadBook, ["followers", 0], Book, [("p", [], followers), ("q", [], followers)], ["p"])
            self.refused(BadBook, ["followers", 1], Book, [("p", [], ["q"]), ("q", [], followers)], ["p"])

    def test_a_follower_may_stand_behind(self):
        self.assertEqual(Book([("p", [], ["q"]), ("q", [], ["p"])], ["q"]).followers_of(0), (1,))

    def test_starts(self):
        for starts in ([], ["x"], ["p", "x"], ["p", "p"], ["q", "p", "q"], [""]):
            self.refused(BadBook, ["starts", 0], Book, [("p", [], ["q"]), ("q", [], ["p"])], starts)

    def test_followers_and_starts_in_any_order(self):
        names = ["d", "a", "c", "b"]
        for row in itertools.permutations(names):
            book = Book([(name, [], list(row)) for name in names], list(row))
            self.assertEqual(book.starts, (0, 1, 2, 3))
            self.assertEqual([book.followers_of(at) for at in range(4)], [(0, 1, 2, 3)] * 4)
        for row in itertools.permutations(["d", "b", "c"]):
            book = Book([(name, [], list(row)) for name in names], list(row))
            self.assertEqual([book.starts, book.followers_of(1)], [(0, 2, 3), (0, 2, 3)])

    def test_the_first_fault_is_told(self):
        wrong = ("P", ["a", "a"], [])
        self.refused(BadBook, ["pages", 0], Book, [wrong] * 5, [])
        self.refused(BadBook, ["page", 2], Book, [("p", [], []), ("q", [], ["x"]), wrong, wrong], [])
        self.refused(BadBook, ["page", 1], Book, [("p", [], []), ("q", ["A"], ["p"]), wrong], [])
        self.refused(BadBook, ["followers", 1], Book, [("p", [], ["q"]), ("q", [], []), ("r", [], [])], [])
        self.refused(BadBook, ["starts", 0], Book, [("p", [], ["p"])], [])

    def test_what_is_passed_is_copied(self):
        lines, followers, starts = ["a"], ["p"], ["p"]
        pages = [("p", lines, followers), ("q", [], ["p"])]
        book = Book(pages, starts)
        self.assertEqual([pages, starts], [[("p", ["a"], ["p"]), ("q", [], ["p"])], ["p"]])
        lines.append("b")
        followers.append("q")
        starts.append("q")
        pages.append(("r", [], ["p"]))
        self.assertEqual(book, Book([("p", ["a"], ["p"]), ("q", [], ["p"])], ["p"]))
        self.assertEqual([book.lines_of(0), book.followers_of(0), book.starts, len(book)], [("a",), (0,), (0,), 2])


class Asking(Case):
    def setUp(self):
        self.book = Book([("day", ["b", "a"], ["night"]), ("night", [], ["day"])], ["day"])

    def test_unknown_page(self):
        for index in (-1, 2, 60, GREAT, -GREAT):
            self.refused(UnknownPage, [index], self.book.lines_of, index)
            self.refused(UnknownPage, [index], self.book.followers_of, index)

    def test_unknown_name(self):
        for name in ("", "Day", "x", "a", "day night", "daynight", "nigh"):
            self.refused(UnknownName, [name], self.book.index, name)

    def test_tuples(self):
        for found in (self.book.names, self.book.starts, self.book.lines_of(0), self.book.followers_of(0)):
            self.assertIs(type(found), tuple)

    def test_equal(self):
        pages = [("p", ["a", "b"], ["p", "q"]), ("q", [], ["p"])]
        book = Book(pages, ["p", "q"])
        same = Book([("p", ["a", "b"], ["q", "p"]), ("q", [], ["p"])], ["q", "p"])
        self.assertTrue(book == same)
        self.assertFalse(book != same)
        for other in (Book([("r", ["a", "b"], ["r", "q"]), ("q", [], ["r"])], ["r", "q"]),
                      Book([("p", ["b", "a"], ["p", "q"]), ("q", [], ["p"])], ["p", "q"]),
                      Book([("p", ["a"], ["p", "q"]), ("q", ["b"], ["p"])], ["p", "q"]),
                      Book([("p", ["a", "b"], ["p"]), ("q", [], ["p"])], ["p", "q"]),
                      Book(pages, ["p"]), Book(pages[::-1], ["p", "q"])):
            self.assertFalse(book == other)
            self.assertTrue(book != other)
        self.assertFalse(book == pages)


class Walks(Case):
    def test_is_walk(self):
        book = Book([("a", [], ["b", "c"]), ("b", [], ["b"]), ("c", [], ["a"])], ["a", "b"])
        for names in ([], ["a"], ["b"], ["a", "b"], ["a", "c"], ["b", "b", "b"], ["a", "c", "a", "b", "b"]):
            self.assertIs(book.is_walk(names), True)
        for names in (["c"], ["a", "a"], ["b", "a"], ["b", "c"], ["c", "a"], ["a", "c", "b"], ["x"], ["a", "x"],
                      ["x", "a"], ["a", "x", "b"], [""], ["a", "b", "b", "c"], ["a b"]):
            self.assertIs(book.is_walk(names), False)

    def test_is_walk_changes_nothing(self):
        names = ["a", "a"]
        Book([("a", [], ["a"])], ["a"]).is_walk(names)
        self.assertEqual(names, ["a", "a"])

    def test_walks_are_told_in_order(self):
        book = Book([("z", [], ["y", "z"]), ("y", [], ["z", "x"]), ("x", [], ["x", "y"])], ["x", "z"])
        self.assertEqual(list(book.walks(0)), [[]])
        self.assertEqual(list(book.walks(1)), [["z"], ["x"]])
        self.assertEqual(list(book.walks(2)), [["z", "z"], ["z", "y"], ["x", "y"], ["x", "x"]])

    def test_walks_against_trying(self):
        for book in some_books():
            for rounds in range(7 if len(book) < 4 else 5):
                walks = walks_by_trying(book, rounds)
                self.assertEqual(list(book.walks(rounds)), walks)
                self.assertEqual(book.count_walks(rounds), len(walks))
                self.assertTrue(all(book.is_walk(walk) for walk in walks))

    def test_six_rounds_of_four_pages(self):
        names = ["d", "c", "b", "a"]
        book = Book([(name, [], names) for name in names], names)
        walks = list(book.walks(6))
        self.assertEqual([len(walks), book.count_walks(6)], [4096, 4096])
        self.assertEqual(walks, [list(row) for row in itertools.product(names, repeat=6)])

    def test_walks_is_a_generator_of_new_lists(self):
        book = Book([("a", [], ["a"])], ["a"])
        self.assertTrue(inspect.isgeneratorfunction(vars(Book)["walks"]))
        for rounds in (0, 1, 3):
            self.fresh(lambda: list(book.walks(rounds))[0], lambda walk: walk.append("x"))

    def test_a_walk_can_be_changed_while_others_come(self):
        book = Book([("a", [], ["a", "b"]), ("b", [], ["a"])], ["a", "b"])
        walks = []
        for walk in book.walks(3):
            walks.append(tuple(walk))
            walk.clear()
        self.assertEqual(walks, [tuple(walk) for walk in walks_by_trying(book, 3)])

    def test_count_walks(self):
        book = Book([("a", [], ["a", "b"]), ("b", [], ["a"])], ["a"])
        self.assertEqual([book.count_walks(rounds) for rounds in range(8)], [1, 1, 2, 3, 5, 8, 13, 21])
        self.assertEqual(Book([("a", [], ["a"])], ["a"]).count_walks(200), 1)
        names = list("abcd")
        self.assertEqual(Book([(name, [], names) for name in names], names).count_walks(200), 4 ** 200)
        self.assertEqual(Book([(name, [], names) for name in names], ["d"]).count_walks(200), 4 ** 199)
        self.assertEqual(Book([(name, [], names) for name in names], names).count_walks(0), 1)

    def test_count_walks_refused(self):
        book = Book([("a", [], ["a"])], ["a"])
        for rounds in (-1, 201, GREAT, -GREAT):
            self.refused(BadNumber, [rounds], book.count_walks, rounds)

    def test_reachable(self):
        book = Book([("a", [], ["a", "d"]), ("b", [], ["c"]), ("c", [], ["a"]), ("d", [], ["a"])], ["d"])
        self.assertEqual(book.reachable(), [0, 3])
        self.assertEqual(Book([("a", [], ["b"]), ("b", [], ["b"])], ["b"]).reachable(), [1])
        self.assertEqual(Book([("a", [], ["b"]), ("b", [], ["a"])], ["b"]).reachable(), [0, 1])
        self.assertEqual(Book([("a", [], ["a"]), ("b", [], ["b"])], ["b", "a"]).reachable(), [0, 1])
        self.fresh(book.reachable, lambda found: found.append(9))

    def test_reachable_against_walks(self):
        for book in some_books():
            seen = {book.index(name) for rounds in range(1, 5) for walk in book.walks(rounds) for name in walk}
            self.assertEqual(book.reachable(), sorted(seen))


if __name__ == "__main__":
    unittest.main()
