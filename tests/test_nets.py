"""Nets, points [14] and [15], and what point [2] says of them."""

import random
import unittest

from depotday.errors import BadNet, UnknownSpan
from depotday.nets import Net
from helping import Case

GREAT = 10 ** 9


class Making(Case):
    def test_attributes(self):
        net = Net(10, 3, [(0, 1, 2, 4), (1, 2, 3, 3), (2, 0, 0, 9)])
        self.assertEqual(vars(net), {"round_length": 10, "events": 3,
                                     "spans": ((0, 1, 2, 4), (1, 2, 3, 3), (2, 0, 0, 9))})

    def test_round(self):
        for length in (2, 3, 59, 60):
            self.assertEqual(Net(length, 0, []).round_length, length)
        for length in (1, 0, -1, 61, GREAT, -GREAT):
            self.refused(BadNet, ["round", 0], Net, length, 2, [])

    def test_events(self):
        for events in (0, 1, 12):
            self.assertEqual(Net(5, events, []).events, events)
        for events in (-1, 13, GREAT, -GREAT):
            self.refused(BadNet, ["events", 0], Net, 5, events, [])

    def test_number_of_spans(self):
        span = (0, 1, 2, 4)
        for number in (0, 1, 24):
            self.assertEqual(Net(5, 2, [span] * number).spans, (span,) * number)
        for number in (25, 40):
            self.refused(BadNet, ["spans", 0], Net, 5, 2, [span] * number)

    def test_spans_that_are_let(self):
        for span in ((0, 1, 0, 0), (0, 2, 0, 9), (2, 0, 5, 5), (1, 2, 5, 14), (2, 1, 999, 999), (0, 1, 990, 999),
                     (1, 0, 998, 999)):
            self.assertEqual(Net(10, 3, [span]).spans, (span,))
        self.assertEqual(Net(2, 12, [(11, 0, 3, 4)]).spans, ((11, 0, 3, 4),))
        self.assertEqual(Net(60, 2, [(0, 1, 0, 59)]).spans, ((0, 1, 0, 59),))

    def test_spans_that_are_wrong(self):
        for span in ((0, 0, 1, 1), (2, 2, 1, 1), (0, 3, 1, 1), (3, 0, 1, 1), (-1, 0, 1, 1), (0, -1, 1, 1),
                     (0, 1, -1, 0), (0, 1, -1, -1), (0, 1, 3, 2), (0, 1, 0, 10), (0, 1, 5, 15), (0, 1, 991, 1000),
                     (0, 1, 1000, 1000), (0, 1, 999, 1000), (GREAT, 1, 1, 1), (0, 1, GREAT, GREAT),
                     (0, 1, -GREAT, GREAT)):
            self.refused(BadNet, ["span", 0], Net, 10, 3, [span])
            self.refused(BadNet, ["span", 2], Net, 10, 3, [(0, 1, 1, 1), (1, 0, 1, 1), span])
        self.refused(BadNet, ["span", 0], Net, 2, 2, [(0, 1, 0, 2)])
        self.refused(BadNet, ["span", 0], Net, 5, 0, [(0, 1, 1, 1)])
        self.refused(BadNet, ["span", 0], Net, 5, 1, [(0, 1, 1, 1)])

    def test_the_first_fault_is_told(self):
        wrong = [(0, 0, 1, 1)]
        self.refused(BadNet, ["round", 0], Net, 1, 13, wrong * 25)
        self.refused(BadNet, ["events", 0], Net, 5, 13, wrong * 25)
        self.refused(BadNet, ["spans", 0], Net, 5, 12, wrong * 25)
        self.refused(BadNet, ["span", 1], Net, 5, 12, [(0, 1, 1, 1)] + wrong * 2)

    def test_what_is_passed_is_copied(self):
        spans = [(0, 1, 1, 1)]
        net = Net(5, 2, spans)
        spans.append((1, 0, 2, 2))
        self.assertEqual(net.spans, ((0, 1, 1, 1),))
        self.assertEqual(spans, [(0, 1, 1, 1), (1, 0, 2, 2)])

    def test_equal(self):
        net = Net(5, 3, [(0, 1, 1, 1), (1, 2, 0, 4)])
        self.assertTrue(net == Net(5, 3, [(0, 1, 1, 1), (1, 2, 0, 4)]))
        self.assertFalse(net != Net(5, 3, [(0, 1, 1, 1), (1, 2, 0, 4)]))
        for other in (Net(6, 3, [(0, 1, 1, 1), (1, 2, 0, 4)]), Net(5, 4, [(0, 1, 1, 1), (1, 2, 0, 4)]),
                      Net(5, 3, [(1, 2, 0, 4), (0, 1, 1, 1)]), Net(5, 3, [(0, 1, 1, 1)]), Net(5, 3, [])):
            self.assertFalse(net == other)
            self.assertTrue(net != other)
        self.assertFalse(net == net.spans)


class Changing(Case):
    def setUp(self):
        self.spans = [(0, 1, 1, 1), (1, 2, 0, 4), (0, 1, 1, 1)]
        self.net = Net(5, 3, self.spans)

    def tearDown(self):
        self.assertEqual(self.net, Net(5, 3, self.spans))

    def test_plus(self):
        self.assertEqual(self.net.plus((2, 0, 3, 3)), Net(5, 3, self.spans + [(2, 0, 3, 3)]))
        self.assertEqual(self.net.plus((2, 0, 3, 3), (0, 2, 0, 0)),
                         Net(5, 3, self.spans + [(2, 0, 3, 3), (0, 2, 0, 0)]))
        self.assertEqual(self.net.plus(), self.net)
        self.assertIsNot(self.net.plus(), self.net)

    def test_plus_too_many(self):
        self.assertEqual(len(self.net.plus(*[(0, 1, 1, 1)] * 21).spans), 24)
        self.refused(BadNet, ["spans", 0], self.net.plus, *[(0, 1, 1, 1)] * 22)
        self.refused(BadNet, ["spans", 0], self.net.plus, *[(0, 0, 1, 1)] * 22)

    def test_plus_a_wrong_span(self):
        self.refused(BadNet, ["span", 3], self.net.plus, (0, 0, 1, 1))
        self.refused(BadNet, ["span", 4], self.net.plus, (0, 1, 1, 1), (0, 3, 1, 1), (0, 0, 1, 1))
        self.refused(BadNet, ["span", 3], self.net.plus, (0, 1, 1, 6), (0, 1, 1, 1))

    def test_without(self):
        one, two, three = self.spans
        for numbers, kept in (((0,), [two, three]), ((2,), [one, two]), ((2, 0), [two]), ((1, 1), [one, three]),
                              ((0, 1, 2), []), ((2, 1, 0, 1, 2), []), ((), self.spans)):
            self.assertEqual(self.net.without(*numbers), Net(5, 3, kept))
        self.assertIsNot(self.net.without(), self.net)

    def test_without_an_unknown_span(self):
        for number in (3, -1, GREAT, -GREAT):
            self.refused(UnknownSpan, [number], self.net.without, number)
            self.refused(UnknownSpan, [number], self.net.without, 0, 0, number, 99)
        self.refused(UnknownSpan, [9], self.net.without, 9, 3)
        self.refused(UnknownSpan, [0], Net(5, 3, []).without, 0)


class Pieces(Case):
    def test_without_spans_each_event_is_a_piece(self):
        self.assertEqual(Net(5, 0, []).pieces(), [])
        self.assertEqual(Net(5, 1, []).pieces(), [[0]])
        self.assertEqual(Net(5, 3, []).pieces(), [[0], [1], [2]])

    def test_spans_join_in_either_direction(self):
        self.assertEqual(Net(5, 3, [(2, 0, 1, 1)]).pieces(), [[0, 2], [1]])
        self.assertEqual(Net(5, 3, [(0, 1, 1, 1), (2, 1, 1, 1)]).pieces(), [[0, 1, 2]])
        self.assertEqual(Net(5, 6, [(5, 1, 1, 1), (2, 4, 1, 1), (1, 3, 1, 1), (3, 5, 0, 0)]).pieces(),
                         [[0], [1, 3, 5], [2, 4]])

    def test_pieces_that_meet_late(self):
        spans = [(4, 5, 1, 1), (2, 3, 1, 1), (0, 1, 1, 1), (5, 2, 1, 1)]
        self.assertEqual(Net(5, 6, spans).pieces(), [[0, 1], [2, 3, 4, 5]])
        self.assertEqual(Net(5, 6, spans + [(3, 1, 1, 1)]).pieces(), [[0, 1, 2, 3, 4, 5]])

    def test_against_going_about(self):
        chance = random.Random(15)
        for _ in range(200):
            events = chance.randint(2, 12)
            joins = [tuple(chance.sample(range(events), 2)) for _ in range(chance.randint(0, 10))]
            found = Net(5, events, [(start, end, 1, 1) for start, end in joins]).pieces()
            self.assertEqual(sorted(event for piece in found for event in piece), list(range(events)))
            self.assertEqual(found, sorted([sorted(piece) for piece in found]))
            self.assertEqual(found, [self.about(piece[0], joins) for piece in found])

    def about(self, event, joins):
        seen, grown = set(), {event}
        while seen != grown:
            seen = set(grown)
            grown = seen | {other for pair in joins if seen & set(pair) for other in pair}
        return sorted(seen)

    def test_what_is_returned_is_new(self):
        net = Net(5, 3, [(0, 1, 1, 1)])
        self.fresh(net.pieces, lambda pieces: pieces.append([9]))
        self.fresh(net.pieces, lambda pieces: pieces[0].append(9))


if __name__ == "__main__":
    unittest.main()
