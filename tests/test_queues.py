"""Queues, points [45] to [48]."""

import random
import unittest

from depotday.errors import AtHome, BadTurns, Barred, NotHome, PassedOver
from depotday.queues import Queue
from helping import GREAT, Case

BARS = [("a", "a"), ("b", "c")]


def queue_of(patience, lasts, bars=()):
    """A queue of the vehicles 0, 1 and so on, with these last lines."""
    queue = Queue(patience, bars)
    for vehicle, line in enumerate(lasts):
        queue.come(vehicle, line)
    return queue


def told(queue):
    """All that a queue tells of its vehicles."""
    return [(vehicle, queue.last(vehicle), queue.passed(vehicle)) for vehicle in queue]


def over_by_words(queue, orders):
    """How often point [46] passes each vehicle over, vehicle by vehicle."""
    order, sent = list(queue), [vehicle for _, vehicle in orders]
    counts = {}
    for line, vehicle in orders:
        for other in order[:order.index(vehicle)]:
            if other not in sent and (queue.last(other), line) not in queue.bars:
                counts[other] = counts.get(other, 0) + 1
    return counts


def refusal_by_words(queue, orders):
    """The error with which point [46] refuses orders and its vehicle, None if it does not."""
    sent = [vehicle for _, vehicle in orders]
    for at, vehicle in enumerate(sent):
        if vehicle not in list(queue) or vehicle in sent[:at]:
            return NotHome, vehicle
    for line, vehicle in orders:
        if (queue.last(vehicle), line) in queue.bars:
            return Barred, vehicle
    counts = over_by_words(queue, orders)
    for vehicle in queue:
        if queue.patience is not None and queue.passed(vehicle) + counts.get(vehicle, 0) > queue.patience:
            return PassedOver, vehicle
    return None


class Making(Case):
    def test_attributes(self):
        bars = [["b", "c"], ("a", "a")]
        queue = self.keeps(Queue, 3, bars)
        self.assertEqual([queue.patience, queue.bars, list(queue)], [3, (("b", "c"), ("a", "a")), []])
        bars.append(("a", "b"))
        bars[0][0] = "d"
        self.assertEqual(queue.bars, (("b", "c"), ("a", "a")))
        self.assertEqual([Queue(None).patience, Queue(0).bars, Queue(4, ()).patience], [None, (), 4])

    def test_refused(self):
        for patience in (-1, 5, GREAT, -GREAT):
            self.refused(BadTurns, ["patience", 0], Queue, patience)
            self.refused(BadTurns, ["patience", 0], Queue, patience, [("a",)])
        for bars, place in (([("a",)], 0), ([("a", "b"), ("a", "b", "c")], 1), ([("a", "B")], 0), ([("", "a")], 0),
                            ([("a", "b"), ("b", "a"), ("a", "b")], 2), ([("a", "b"), ("abcdefghi", "a"), ()], 1)):
            self.refused(BadTurns, ["bar", place], Queue, 0, bars)
            self.refused(BadTurns, ["bar", place], Queue, None, tuple(bars))


class Coming(Case):
    def test_at_the_end(self):
        queue = Queue(1)
        self.assertIsNone(queue.come(7, "b"))
        queue.come(0, "a")
        queue.come(GREAT, "zz")
        self.assertEqual(told(queue), [(7, "b", 0), (0, "a", 0), (GREAT, "zz", 0)])

    def test_at_home(self):
        queue = queue_of(1, "ab")
        before = queue.clone()
        for vehicle in (0, 1):
            self.refused(AtHome, [vehicle], queue.come, vehicle, "c")
        self.assertEqual(queue, before)

    def test_again_as_a_new_one(self):
        queue = queue_of(2, "ab")
        queue.send([("c", 1)])
        self.assertEqual(queue.passed(0), 1)
        queue.send([("c", 0)])
        queue.come(1, "c")
        queue.come(0, "d")
        self.assertEqual(told(queue), [(1, "c", 0), (0, "d", 0)])


class Sending(Case):
    def test_who_is_passed_over(self):
        queue = queue_of(2, "abab", [("b", "c")])
        # Vehicle 1 stands before the one that is sent, but c is barred after b.
        self.assertEqual(queue.send([("c", 2)]), [0])
        self.assertEqual(told(queue), [(0, "a", 1), (1, "b", 0), (3, "b", 0)])
        self.assertEqual(queue.send([("d", 3)]), [0, 1])
        self.assertEqual(told(queue), [(0, "a", 2), (1, "b", 1)])
        self.assertEqual(queue.send([("d", 0)]), [])
        self.assertEqual(told(queue), [(1, "b", 1)])

    def test_several_at_once(self):
        queue = queue_of(None, "abcde")
        # Vehicle 1 is sent itself; vehicle 2 stands before one of the two that are sent.
        self.assertEqual(queue.send([("x", 3), ("y", 1)]), [0, 2])
        self.assertEqual(told(queue), [(0, "a", 2), (2, "c", 1), (4, "e", 0)])
        self.assertEqual(queue.send([("x", 4), ("y", 2), ("z", 0)]), [])
        self.assertEqual([len(queue), list(queue)], [0, []])

    def test_the_returned_list_is_ascending(self):
        queue = Queue(4)
        for vehicle in (9, 2, 5, 1):
            queue.come(vehicle, "a")
        self.assertEqual(queue.send([("a", 1), ("b", 5)]), [2, 9])
        self.assertEqual(told(queue), [(9, "a", 2), (2, "a", 2)])

    def test_no_orders(self):
        for queue in (Queue(0), queue_of(0, "ab")):
            before = queue.clone()
            self.assertEqual(queue.send([]), [])
            self.assertEqual(queue, before)

    def test_not_home(self):
        queue = queue_of(0, "ab", BARS)
        for orders, vehicle in (([("b", 2)], 2), ([("b", -1)], -1), ([("b", 0), ("a", 0)], 0), ([("a", 5), ("b", 6)], 5),
                                ([("a", 0), ("c", 1), ("b", 1)], 1), ([("a", 1), ("b", GREAT)], GREAT)):
            self.refused(NotHome, [vehicle], queue.send, orders)
        self.refused(NotHome, [0], Queue(None).send, [("a", 0)])

    def test_barred(self):
        queue = queue_of(0, "cab", BARS)
        self.refused(Barred, [1], queue.send, [("b", 2), ("a", 1)])
        self.refused(Barred, [2], queue.send, [("c", 2)])
        self.refused(Barred, [2], queue.send, [("c", 2), ("a", 1)])
        self.assertEqual(queue.send([("a", 0)]), [])

    def test_passed_over(self):
        queue = queue_of(0, "ccb", BARS)
        self.refused(PassedOver, [0], queue.send, [("a", 1)])
        self.refused(PassedOver, [1], queue.send, [("a", 2), ("b", 0)])
        queue = queue_of(1, "ccc")
        queue.send([("a", 1)])
        self.refused(PassedOver, [0], queue.send, [("a", 2)])
        queue = queue_of(1, "ccc")
        self.refused(PassedOver, [0], queue.send, [("a", 2), ("b", 1)])
        self.assertEqual(queue.send([("a", 2), ("b", 0)]), [1])
        self.assertEqual(queue.passed(1), 1)

    def test_the_first_of_the_queue_is_told(self):
        queue = Queue(0)
        for vehicle in (8, 3, 5):
            queue.come(vehicle, "a")
        self.refused(PassedOver, [8], queue.send, [("b", 5)])
        self.refused(PassedOver, [3], queue.send, [("b", 5), ("c", 8)])

    def test_patience_of_each_number(self):
        for patience in range(5):
            queue = queue_of(patience, "a" * 7)
            for vehicle in range(1, patience + 1):
                self.assertEqual(queue.send([("b", vehicle)]), [0])
            self.refused(PassedOver, [0], queue.send, [("b", 6)])
            self.assertEqual(queue.send([("b", 0)]), [])
        queue = queue_of(None, "a" * 30)
        for vehicle in range(1, 30):
            queue.send([("b", vehicle)])
        self.assertEqual(told(queue), [(0, "a", 29)])

    def test_a_queue_that_refuses_is_as_before(self):
        queue = queue_of(1, "cabc", BARS)
        queue.send([("d", 1)])
        before = queue.clone()
        for orders in ([("b", 2), ("d", 9)], [("b", 0), ("c", 2)], [("d", 3), ("e", 2)], [("d", 0), ("e", 0)]):
            self.assertIsNotNone(refusal_by_words(queue, orders))
            with self.assertRaises(ValueError):
                queue.send(orders)
            self.assertEqual(queue, before)
            self.assertEqual(told(queue), told(before))

    def test_orders_are_not_changed(self):
        orders = [("b", 2), ("a", 0)]
        queue_of(4, "abc").send(orders)
        self.assertEqual(orders, [("b", 2), ("a", 0)])

    def test_against_words(self):
        chance = random.Random(46)
        kinds = {NotHome: 0, Barred: 0, PassedOver: 0, None: 0}
        while min(kinds.values()) < 60:
            bars = chance.sample([(x, y) for x in "abc" for y in "abc"], chance.randint(0, 4))
            queue = queue_of(chance.choice((None, 0, 1, 2, 4)), chance.choices("abc", k=chance.randint(0, 5)), bars)
            for _ in range(12):
                number = min(3, chance.randint(0, 3))
                orders = [(line, chance.randint(0, 5)) for line in chance.sample("abc", number)]
                found, before = refusal_by_words(queue, orders), queue.clone()
                kinds[found and found[0]] += 1
                if found:
                    self.refused(found[0], [found[1]], queue.send, orders)
                    self.assertEqual(queue, before)
                    continue
                counts, sent = over_by_words(queue, orders), [vehicle for _, vehicle in orders]
                self.assertEqual(queue.send(orders), sorted(counts))
                self.assertEqual(told(queue), [(vehicle, last, passed + counts.get(vehicle, 0))
                                               for vehicle, last, passed in told(before) if vehicle not in sent])
                if chance.random() < 0.5 and 5 not in queue:
                    queue.come(5, chance.choice("abc"))


class Asking(Case):
    def test_an_empty_queue(self):
        for queue in (Queue(0), Queue(None, BARS)):
            self.assertEqual([len(queue), list(queue), queue.order(), queue.choices("a"), 0 in queue],
                             [0, [], [], [], False])

    def test_vehicles_in_their_order(self):
        queue = Queue(2)
        for vehicle in (4, 0, 2):
            queue.come(vehicle, "a")
        self.assertEqual([len(queue), list(queue), queue.order()], [3, [4, 0, 2], [4, 0, 2]])
        self.assertEqual([vehicle in queue for vehicle in (-1, 0, 1, 2, 4, GREAT)],
                         [False, True, False, True, True, False])
        self.assertEqual([queue.ahead(vehicle) for vehicle in (4, 0, 2)], [0, 1, 2])

    def test_bound(self):
        queue = queue_of(3, "aaaa")
        self.assertEqual([queue.bound(vehicle) for vehicle in range(4)], [3, 4, 5, 6])
        queue.send([("b", 2)])
        self.assertEqual([queue.bound(vehicle) for vehicle in (0, 1, 3)], [2, 3, 5])
        self.assertEqual(queue_of(0, "a").bound(0), 0)
        self.assertIsNone(queue_of(None, "aa").bound(1))

    def test_not_home(self):
        for queue in (queue_of(1, "ab"), queue_of(None, "ab"), Queue(None)):
            for call in (queue.last, queue.passed, queue.ahead, queue.bound):
                for vehicle in (2, -1, GREAT, -GREAT):
                    self.refused(NotHome, [vehicle], call, vehicle)

    def test_choices(self):
        queue = queue_of(0, "abca", BARS)
        self.assertEqual([queue.choices(line) for line in "abcd"], [[1], [0], [0], [0]])
        queue = queue_of(1, "abca", BARS)
        self.assertEqual([queue.choices(line) for line in "abc"], [[1, 2], [0, 1, 2, 3], [0, 2, 3]])
        queue.send([("b", 1)])
        self.assertEqual([queue.choices(line) for line in "abc"], [[2], [0], [0]])
        queue = queue_of(None, "abca", BARS)
        self.assertEqual([queue.choices(line) for line in "abcz"], [[1, 2], [0, 1, 2, 3], [0, 2, 3], [0, 1, 2, 3]])

    def test_choices_are_those_that_send_does_not_refuse(self):
        chance = random.Random(47)
        for _ in range(200):
            bars = chance.sample([(x, y) for x in "abc" for y in "abc"], chance.randint(0, 4))
            queue = queue_of(chance.choice((None, 0, 1, 2)), chance.choices("abc", k=5), bars)
            for line in ("a", "b"):
                if queue.choices(line):
                    queue.send([(line, chance.choice(queue.choices(line)))])
            for line in "abc":
                wanted = [vehicle for vehicle in queue if refusal_by_words(queue, [(line, vehicle)]) is None]
                self.assertEqual(self.keeps(queue.choices, line), wanted)

    def test_clone(self):
        queue = queue_of(3, "abc", BARS)
        queue.send([("b", 1)])
        other = queue.clone()
        self.assertEqual([other, told(other), other.bars], [queue, told(queue), queue.bars])
        other.come(9, "a")
        self.assertEqual(list(queue), [0, 2])
        other.send([("c", 9)])
        self.assertEqual([queue.passed(0), other.passed(0)], [1, 2])
        queue.send([("b", 2)])
        self.assertEqual([list(queue), list(other)], [[0], [0, 2]])

    def test_equal(self):
        def passed_over(vehicle_last):
            queue = queue_of(2, "ab" + vehicle_last, BARS)
            queue.send([("d", 2)])
            return queue
        self.assertTrue(queue_of(1, "ab", BARS) == queue_of(1, "ab", tuple(BARS)))
        self.assertFalse(queue_of(1, "ab", BARS) != queue_of(1, "ab", BARS))
        self.assertEqual(passed_over("c"), passed_over("d"))
        base = queue_of(2, "ab", BARS)
        turned = Queue(2, BARS)
        turned.come(1, "b")
        turned.come(0, "a")
        for other in (queue_of(1, "ab", BARS), queue_of(None, "ab", BARS), queue_of(2, "ab", BARS[::-1]),
                      queue_of(2, "ab"), queue_of(2, "a", BARS), queue_of(2, "aa", BARS), turned, passed_over("c"),
                      [0, 1]):
            self.assertFalse(base == other)
            self.assertTrue(base != other)

    def test_nothing_is_changed_or_shared(self):
        queue = queue_of(1, "abc", BARS)
        for call in (queue.last, queue.passed, queue.ahead, queue.bound):
            self.keeps(call, 1)
        self.keeps(queue.order)
        self.fresh(queue.order, lambda rows: rows.append(9))
        self.fresh(lambda: queue.choices("b"), lambda rows: rows.append(9))


class Waiting(Case):
    """Point [48]."""

    def test_nobody_waits_without_end(self):
        chance = random.Random(48)
        lessened = 0
        for _ in range(120):
            bars = chance.sample([(x, y) for x in "abc" for y in "abc"], chance.randint(0, 3))
            queue = queue_of(chance.randint(0, 4), chance.choices("abc", k=4), bars)
            free = [9, 8, 7, 6]
            for _ in range(15):
                before, bounds = queue.order(), {vehicle: queue.bound(vehicle) for vehicle in queue}
                lasts = {vehicle: queue.last(vehicle) for vehicle in queue}
                orders = [(line, chance.choice(queue.order())) for line in chance.sample("abc", min(2, len(queue)))]
                if queue and refusal_by_words(queue, orders) is None:
                    queue.send(orders)
                    free += [vehicle for _, vehicle in orders]
                    for vehicle in queue:
                        # An order on a line that is barred for the vehicle brings it on only from before it.
                        less = [line for line, other in orders if (lasts[vehicle], line) not in bars
                                or before.index(other) < before.index(vehicle)]
                        lessened += len(less)
                        self.assertEqual(queue.bound(vehicle), bounds[vehicle] - len(less))
                        self.assertGreaterEqual(queue.bound(vehicle), 0)
                elif free:
                    queue.come(free.pop(0), chance.choice("abc"))
                    for vehicle in bounds:
                        self.assertEqual(queue.bound(vehicle), bounds[vehicle])
        self.assertGreater(lessened, 200)


if __name__ == "__main__":
    unittest.main()
