"""The examples of the interface, as they stand there."""

import doctest
import unittest

EXAMPLES = """
>>> from depotday.loads import Load
>>> load = Load.of(3, 2, 4)
>>> [list(load), list(load << 1), abs(load.capped(1))]
[[1, 1, 2], [1, 2, 1], 3]

>>> from depotday.books import Book
>>> from depotday.means import heaviest, most_in
>>> book = Book([("day", ["a", "b"], ["day", "night"]), ("night", [], ["day"])], ["night"])
>>> heavy = heaviest(book, {"a": 2, "b": 1})
>>> [heavy.mean, heavy.ring, heavy.worths, most_in(book, {"a": 2, "b": 1}, 3)]
[(3, 1), ['day'], [0, 0], 6]

>>> from depotday.nets import Net
>>> from depotday.timing import passed, broken
>>> net = Net(10, 3, [(0, 1, 2, 4), (1, 2, 3, 3), (0, 2, 7, 9)])
>>> [passed(net, [0, 3, 6], 0), passed(net, [0, 3, 6], 2), broken(net, [0, 3, 6])]
[3, 16, [2]]

>>> from depotday.bases import Base
>>> from depotday.islands import choices, earliest, islands
>>> [Base(net).rings(), choices(net), earliest(net, [0]), islands(net)]
[[[(2, 1), (1, -1), (0, -1)]], [(0, 0)], [0, 4, 7], [[0]]]

>>> from depotday.lines import Line
>>> from depotday.clocks import Clock
>>> from depotday.lateness import late_break, slack
>>> clock = Clock(5, [Line("a", 2, 2, 1, 1), Line("b", 1, 1, 0, 0)], [("a", "home", "b", "out", 0, 3)])
>>> [late_break(clock, [0, 2, 2, 3]), late_break(clock, [0, 2, 3, 4]), slack(clock, [0, 2, 3, 4])]
[(0, 1, 0), None, 0]

>>> from depotday.depottext import read_depot, depot_text
>>> text = "round 3\\nline a 2 2 use 1 late 1\\ncable 1 2\\npatience 0\\nvehicle a\\npage day a > day\\nstart day"
>>> depot_text(read_depot(text)) == text
True

>>> from depotday.errors import BadLine
>>> try:
...     read_depot("round 3\\nline a 2 2 use 1 late 3")
... except BadLine as error:
...     print(error.number)
2

>>> from depotday.days import Day
>>> from depotday.ringed import ring_answer, ring_chain
>>> day = Day(read_depot(text), [0, 2])
>>> [day.runs, day.tardy, ring_chain(day).waits, ring_chain(day).stays, ring_answer(day)]
[(2,), (3,), (1,), (0,), ('cut', (0,))]

>>> from depotday.papers import decide
>>> decide(Day(read_depot(text), [0, 2])).told()
'all comings: broken within 7 minutes'

>>> from depotday.standings import first_standing, news_list
>>> from depotday.answering import answers, after
>>> text = text.replace("vehicle a", "vehicle a\\nvehicle a")
>>> day = Day(read_depot(text), [0, 2])
>>> first = first_standing(day)
>>> [first, news_list(day, first), answers(day, first, (0, ()))]
[(-1, 0, ((2, -1, 0), (2, -1, 0)), ()), [(0, ())], [((0,), ())]]
>>> after(day, first, (0, ()), ((0,), ()))
(0, 1, ((2, -1, 0),), ((0, 1, 1),))

>>> from depotday.least import least
>>> found = least(day, "vehicles")
>>> [found.part, found.number, len(found.plans), found.plans[0].minutes]
['vehicles', 2, 1, 7]

>>> from depotday.desks import Desk
>>> from depotday.commands import run
>>> desk = Desk(day)
>>> [run(desk, "hear page day\\nanswer a 0 >"), desk.now, desk.out(), desk[0], desk.log]
[2, (0, 1), [(0, 'a', 1)], (1, 1, 'a', 0), ['hear page day', 'answer a 0 >']]

>>> from depotday.ledgers import ledger
>>> ledger(desk)
[' no place    units  runs  due', '  0 a            1     1   +1', '  1 home         2     0    -']
"""


class Examples(unittest.TestCase):
    def test_examples(self):
        examples = doctest.DocTestParser().get_doctest(EXAMPLES, {}, "interface", "interface", 0)
        self.assertTrue(examples.examples)
        self.assertEqual(doctest.DocTestRunner().run(examples).failed, 0)


if __name__ == "__main__":
    unittest.main()
