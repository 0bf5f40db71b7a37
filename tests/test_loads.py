"""Loads, points [4] to [8], and what point [2] says of them."""

import operator
import unittest

from depotday.errors import BadLoad
from depotday.loads import Load
from helping import Case

GREAT = 10 ** 9
ODD = 123456789012345


class Making(Case):
    def test_lengths(self):
        for length in (1, 2, 59, 60):
            self.assertEqual(list(Load([3] * length)), [3] * length)
        for length in (0, 61, 100):
            self.refused(BadLoad, [], Load, [3] * length)

    def test_counts(self):
        self.assertEqual(list(Load([0, GREAT])), [0, GREAT])
        for counts in ([-1], [-GREAT], [0, 1, -1], [-1, 0], (0, -1, 2)):
            self.refused(BadLoad, [], Load, counts)

    def test_a_tuple_is_as_good_as_a_list(self):
        self.assertEqual(Load((1, 2)), Load([1, 2]))
        self.refused(BadLoad, [], Load, ())

    def test_what_is_passed_is_copied(self):
        counts = [1, 2]
        load = Load(counts)
        counts[0] = 9
        self.assertEqual(list(load), [1, 2])
        load[1] = 7
        self.assertEqual(counts, [9, 2])

    def test_zero(self):
        for length in (1, 2, 60):
            self.assertEqual(list(Load.zero(length)), [0] * length)
        for length in (0, 61, -1, GREAT, -GREAT):
            self.refused(BadLoad, [], Load.zero, length)
        load = Load.zero(2)
        load[0] = 1
        self.assertEqual(list(Load.zero(2)), [0, 0])

    def test_kinds_of_the_makers(self):
        self.assertIsInstance(vars(Load)["zero"], staticmethod)
        self.assertIsInstance(vars(Load)["of"], classmethod)
        self.assertIs(type(Load.zero(1)), Load)
        self.assertIs(type(Load.of(1, 0, 0)), Load)


class Of(Case):
    def test_example(self):
        load = Load.of(3, 2, 4)
        self.assertEqual([list(load), list(load << 1), abs(load.capped(1))], [[1, 1, 2], [1, 2, 1], 3])

    def test_against_counting(self):
        for length in (1, 2, 7, 60):
            for begin in (0, 1, length - 1, length, -1, -length, 1000003, -1000003, GREAT, -GREAT):
                for minutes in (0, 1, length - 1, length, length + 1, 3 * length + 2):
                    counts = [0] * length
                    for passed in range(minutes):
                        counts[(begin + passed) % length] += 1
                    self.assertEqual(list(Load.of(length, begin, minutes)), counts)

    def test_minutes(self):
        self.assertEqual(list(Load.of(3, 5, 0)), [0, 0, 0])
        self.assertEqual(list(Load.of(3, 1, 10000)), [3333, 3334, 3333])
        self.assertEqual(list(Load.of(1, -4, 10000)), [10000])
        for minutes in (-1, 10001, GREAT, -GREAT):
            self.refused(BadLoad, [], Load.of, 3, 0, minutes)

    def test_lengths(self):
        self.assertEqual(list(Load.of(60, 59, 2)), [1] + [0] * 58 + [1])
        for length in (0, 61, -1, GREAT):
            self.refused(BadLoad, [], Load.of, length, 0, 1)


class Items(Case):
    def test_reading(self):
        load = Load([4, 0, 6])
        self.assertEqual([load[0], load[1], load[2], len(load), list(load)], [4, 0, 6, 3, [4, 0, 6]])
        for minute in (-1, 3, -3, 60, GREAT, -GREAT):
            self.refused(BadLoad, [], operator.getitem, load, minute)

    def test_writing(self):
        load = Load([4, 0, 6])
        load[0] = 0
        load[2] = GREAT
        self.assertIsNone(load.put(1, 5))
        self.assertEqual(list(load), [0, 5, GREAT])
        load.put(2, 0)
        self.assertEqual(list(load), [0, 5, 0])

    def test_refused_writing_changes_nothing(self):
        load = Load([4, 0, 6])
        for write in (load.put, lambda minute, count: operator.setitem(load, minute, count)):
            for minute, count in ((-1, 1), (3, 1), (GREAT, 0), (-3, 2), (0, -1), (2, -GREAT), (3, -1)):
                self.refused(BadLoad, [], write, minute, count)
                self.assertEqual(list(load), [4, 0, 6])

    def test_in(self):
        load = Load([4, 0, 6])
        self.assertEqual([minute in load for minute in (0, 1, 2, 3, -1, -3, 4, 6, GREAT)],
                         [True, False, True] + [False] * 6)
        self.assertIs(1 not in load, True)

    def test_truth(self):
        self.assertIs(bool(Load([0, 0])), False)
        self.assertIs(bool(Load([0])), False)
        self.assertIs(bool(Load([0, 1])), True)
        self.assertIs(bool(Load([1, 0])), True)

    def test_abs_is_the_sum(self):
        self.assertEqual([abs(Load([0])), abs(Load([4, 0, 6])), abs(Load([GREAT] * 60))], [0, 10, 60 * GREAT])

    def test_equal(self):
        self.assertTrue(Load([1, 2]) == Load([1, 2]))
        self.assertFalse(Load([1, 2]) != Load([1, 2]))
        for counts in ([2, 1], [1], [1, 2, 0], [1, 3]):
            self.assertFalse(Load([1, 2]) == Load(counts))
            self.assertTrue(Load([1, 2]) != Load(counts))
        self.assertFalse(Load([1, 2]) == [1, 2])

    def test_what_iterating_gives_is_new(self):
        load = Load([1, 2])
        self.fresh(lambda: list(load), lambda counts: counts.append(3))
        self.assertEqual([list(load), list(load)], [[1, 2], [1, 2]])


SIGNS = [(operator.add, [5, 4, 6]), (operator.sub, [0, 2, 0]), (operator.or_, [4, 3, 3]),
         (operator.and_, [1, 1, 3]), (operator.xor, [3, 2, 0])]
TURNED = {operator.sub: [3, 0, 0]}


class Pairs(Case):
    def test_signs_both_ways_round(self):
        for sign, wanted in SIGNS:
            one, other = Load([1, 3, 3]), Load([4, 1, 3])
            self.assertEqual(list(sign(one, other)), wanted)
            self.assertEqual(list(sign(other, one)), TURNED.get(sign, wanted))
            self.assertEqual([list(one), list(other)], [[1, 3, 3], [4, 1, 3]])

    def test_a_load_and_itself(self):
        load = Load([0, 2, GREAT])
        wanted = [[0, 4, 2 * GREAT], [0, 0, 0], [0, 2, GREAT], [0, 2, GREAT], [0, 0, 0]]
        self.assertEqual([list(sign(load, load)) for sign, _ in SIGNS], wanted)
        self.assertIs(load.within(load), True)
        for sign, _ in SIGNS:
            self.assertIsNot(sign(load, load), load)
        self.assertEqual(list(load), [0, 2, GREAT])

    def test_other_lengths(self):
        one, other = Load([1, 2]), Load([1, 2, 3])
        for sign in [sign for sign, _ in SIGNS] + [Load.within, operator.iadd]:
            self.refused(BadLoad, [], sign, one, other)
            self.refused(BadLoad, [], sign, other, one)
            self.assertEqual([list(one), list(other)], [[1, 2], [1, 2, 3]])

    def test_results_are_loads_of_their_own(self):
        for sign, _ in SIGNS:
            one, other = Load([1, 0]), Load([0, 0])
            found = sign(one, other)
            self.assertIs(type(found), Load)
            found[1] = 8
            self.assertEqual([list(one), list(other)], [[1, 0], [0, 0]])

    def test_counts_grow_above_what_is_passed(self):
        load = Load([GREAT])
        load += Load([GREAT])
        self.assertEqual([list(load), list(load + load), list(load * GREAT)],
                         [[2 * GREAT], [4 * GREAT], [2 * GREAT * GREAT]])
        self.assertEqual([list(load - Load([1])), load[0], 0 in load], [[2 * GREAT - 1], 2 * GREAT, True])

    def test_add_in_place_changes_the_load(self):
        load = Load([1, 2])
        second = load
        other = Load([10, 0])
        load += other
        self.assertIs(load, second)
        self.assertEqual([list(second), list(other)], [[11, 2], [10, 0]])
        load += load
        self.assertEqual(list(second), [22, 4])
        other[0] = 0
        self.assertEqual(list(second), [22, 4])

    def test_other_signs_in_place_make_new_loads(self):
        for sign in (operator.isub, operator.ior, operator.iand, operator.ixor):
            load = Load([1, 2])
            self.assertIsNot(sign(load, Load([3, 0])), load)
            self.assertEqual(list(load), [1, 2])
        for sign in (operator.imul, operator.ifloordiv, operator.imod, operator.ilshift, operator.irshift):
            load = Load([1, 2])
            self.assertIsNot(sign(load, 1), load)
            self.assertEqual(list(load), [1, 2])

    def test_within(self):
        for counts, wanted in (([1, 2], True), ([2, 3], True), ([1, 1], False), ([0, 9], False), ([0, 0], False)):
            self.assertIs(Load([1, 2]).within(Load(counts)), wanted)


class Numbers(Case):
    def test_times(self):
        load = Load([0, 3, 5])
        for number, wanted in ((0, [0, 0, 0]), (1, [0, 3, 5]), (7, [0, 21, 35]), (GREAT, [0, 3 * GREAT, 5 * GREAT])):
            self.assertEqual([list(load * number), list(number * load)], [wanted, wanted])
            self.assertIs(type(number * load), Load)

    def test_times_a_negative_number(self):
        load = Load([0, 3])
        for number in (-1, -GREAT):
            self.refused(BadLoad, [], operator.mul, load, number)
            self.refused(BadLoad, [], operator.mul, number, load)
            self.refused(BadLoad, [], operator.mul, Load.zero(1), number)

    def test_quotients_and_remainders(self):
        load = Load([0, 3, 5, 6])
        for number, quotients, rests in ((1, [0, 3, 5, 6], [0] * 4), (3, [0, 1, 1, 2], [0, 0, 2, 0]),
                                         (GREAT, [0] * 4, [0, 3, 5, 6])):
            self.assertEqual(list(load // number), quotients)
            self.assertEqual(list(load % number), rests)
        for number in (0, -1, -GREAT):
            self.refused(BadLoad, [], operator.floordiv, load, number)
            self.refused(BadLoad, [], operator.mod, load, number)

    def test_capped(self):
        load = Load([0, 3, 5])
        for width, wanted in ((0, [0, 0, 0]), (1, [0, 1, 1]), (3, [0, 3, 3]), (4, [0, 3, 4]), (GREAT, [0, 3, 5])):
            self.assertEqual(list(load.capped(width)), wanted)
        for width in (-1, -GREAT):
            self.refused(BadLoad, [], load.capped, width)

    def test_shifts(self):
        load = Load([1, 2, 3, 4, 5])
        for number in (0, 1, 2, 4, 5, 6, -1, -5, -7, GREAT, -GREAT, ODD, -ODD):
            self.assertEqual(list(load << number), [load[(minute + number) % 5] for minute in range(5)])
            self.assertEqual(list(load >> number), [load[(minute - number) % 5] for minute in range(5)])
        self.assertEqual([list(load << 1), list(load >> 1)], [[2, 3, 4, 5, 1], [5, 1, 2, 3, 4]])
        self.assertEqual([list(Load([7]) << 3), list(Load([7]) >> -ODD)], [[7], [7]])

    def test_results_are_loads_of_their_own(self):
        for change in (lambda load: load * 1, lambda load: 1 * load, lambda load: load // 1, lambda load: load % 9,
                       lambda load: load.capped(9), lambda load: load << 0, lambda load: load >> 2,
                       lambda load: load << 2):
            load = Load([1, 2])
            found = change(load)
            self.assertEqual(found, load)
            found[0] = 5
            self.assertEqual(list(load), [1, 2])


if __name__ == "__main__":
    unittest.main()
