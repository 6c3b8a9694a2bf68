"""Tests of [13]: memories with numbers, and the ends that they have."""

import unittest

from slackrods.errors import InvalidCount, OutOfBound
from slackrods.memories import Memory
from slackrods.numbering import ends_within, memory_count, memory_number, nth_memory
from slackrods.rigs import rig_of, rod
from tests import naive
from tests.samples import WRONG_KINDS, generator, model_of_arms, random_chain

WRONG_BOUNDS = (-1, 61, 10 ** 30) + WRONG_KINDS


def all_from_rest(bound):
    """The places of all memories with the lowest place 0 and no place above a bound, in order."""
    return [places for places in naive.all_memories(0, bound) if places[0] == 0]


class NumberTest(unittest.TestCase):
    def test_example(self):
        self.assertEqual([memory_count(3), nth_memory(3, 5).places], [8, (0, 3, 1)])
        self.assertEqual(memory_number(Memory((0, 2, 1)), 3), 3)

    def test_against_listing(self):
        for bound in range(9):
            listed = all_from_rest(bound)
            with self.subTest(bound=bound):
                self.assertEqual(memory_count(bound), len(listed))
                self.assertEqual([nth_memory(bound, number).places for number in range(len(listed))], listed)
                self.assertEqual([memory_number(Memory(places), bound) for places in listed], list(range(len(listed))))

    def test_far_counts(self):
        self.assertEqual([memory_count(0), memory_count(1), memory_count(60)], [1, 2, 2 ** 60])

    def test_first_and_last_one(self):
        for bound in range(61):
            last = memory_count(bound) - 1
            self.assertEqual(nth_memory(bound, 0).places, (0,))
            self.assertEqual(memory_number(Memory((0,)), bound), 0)
            self.assertEqual(memory_number(nth_memory(bound, last), bound), last)
        self.assertEqual(nth_memory(60, 2 ** 60 - 1).places, (0, 60, 59))

    def test_both_ways(self):
        chance = generator(40)
        for _ in range(400):
            bound = chance.randint(0, 60)
            number = chance.randrange(2 ** bound)
            memory = nth_memory(bound, number)
            with self.subTest(bound=bound, number=number):
                self.assertIsInstance(memory, Memory)
                self.assertEqual(memory.places[0], 0)
                self.assertLessEqual(max(memory.places), bound)
                self.assertEqual(memory_number(memory, bound), number)

    def test_order_of_far_ones(self):
        chance = generator(41)
        for _ in range(100):
            bound = chance.randint(30, 60)
            numbers = sorted(chance.sample(range(2 ** bound), 20))
            places = [nth_memory(bound, number).places for number in numbers]
            self.assertEqual(places, sorted(places))

    def test_same_memory_in_other_bounds(self):
        # What stands ahead of a memory does not depend on how much stands behind it.
        memory = Memory((0, 5, 2, 4))
        numbers = [memory_number(memory, bound) for bound in range(5, 61)]
        self.assertEqual(numbers, [all_from_rest(5).index((0, 5, 2, 4))] * 56)


class WrongNumberTest(unittest.TestCase):
    def test_bounds(self):
        for bound in WRONG_BOUNDS:
            with self.subTest(bound=bound):
                with self.assertRaises(InvalidCount):
                    memory_count(bound)
                with self.assertRaises(InvalidCount):
                    memory_number(Memory((0,)), bound)
                with self.assertRaises(InvalidCount):
                    nth_memory(bound, 0)

    def test_out_of_bound(self):
        for places, bound in (((0, 4), 3), ((0, 1), 0), ((0, 4, 1, 2), 3), ((-1,), 9), ((-1, 3), 9), ((-5, 0), 60),
                              ((-2, 9, 0), 8), ((0, 61), 60), ((0, 1000000), 60)):
            with self.subTest(places=places, bound=bound):
                with self.assertRaises(OutOfBound):
                    memory_number(Memory(places), bound)

    def test_at_the_bound(self):
        self.assertEqual(memory_number(Memory((0, 4)), 4), 8)
        self.assertEqual(memory_number(Memory((0, 60)), 60), 2 ** 59)

    def test_what_is_no_memory(self):
        for wrong in (None, True, 0, "", (0,), [0], (0, 1)):
            with self.subTest(wrong=wrong):
                with self.assertRaises(OutOfBound):
                    memory_number(wrong, 5)

    def test_wrong_bound_comes_first(self):
        for bound in (-1, 61, True, None):
            for memory in (Memory((-1,)), Memory((0, 99)), None):
                with self.assertRaises(InvalidCount):
                    memory_number(memory, bound)

    def test_numbers(self):
        for bound in (0, 1, 3, 60):
            for number in (-1, 2 ** bound, 2 ** bound + 1, 10 ** 30) + WRONG_KINDS:
                with self.subTest(bound=bound, number=number):
                    with self.assertRaises(InvalidCount):
                        nth_memory(bound, number)


class EndsWithinTest(unittest.TestCase):
    def check(self, rig, model, bound):
        counts = {}
        for places in all_from_rest(bound):
            end = naive.ends(model(), list(places))[-1]
            counts[end] = counts.get(end, 0) + 1
        with self.subTest(arms=rig.arms, bound=bound):
            found = ends_within(rig, bound)
            self.assertEqual(found, counts)
            self.assertEqual(list(found), sorted(counts))

    def test_example(self):
        self.assertEqual(ends_within(rod(1), 2), {0: 2, 1: 2})

    def test_bound_0(self):
        for rig in (rod(0), -rod(3) * 5, rod(0) * 0):
            self.assertEqual(ends_within(rig, 0), {0: 1})

    def test_one_rod(self):
        for slack in range(4):
            for bound in range(7):
                self.check(rod(slack), lambda: naive.Rod(slack), bound)

    def test_chains(self):
        chance = generator(42)
        for _ in range(60):
            rig, model = random_chain(chance, chance.randint(1, 3))
            self.check(rig, model, chance.randint(0, 7))

    def test_random_curves(self):
        chance = generator(43)
        for _ in range(60):
            rig = rig_of([chance.randint(-9, 9) for _ in range(chance.randint(1, 9))])
            self.check(rig, model_of_arms(rig.arms), chance.randint(0, 7))

    def test_rig_without_arms(self):
        for bound in (0, 1, 5, 24):
            self.assertEqual(ends_within(rod(2) - rod(2), bound), {0: 2 ** bound})

    def test_far_bounds(self):
        # All end places of a rod without slack are the handle's places.
        counts = ends_within(rod(0), 24)
        self.assertEqual(list(counts), list(range(25)))
        self.assertEqual(sum(counts.values()), 2 ** 24)
        self.assertEqual(ends_within(rod(30), 24), {0: 2 ** 24})
        for rig in (rod(3) * 99 - rod(7), rod(1) - rod(5) * 2, rig_of(list(range(60, 0, -1)))):
            counts = ends_within(rig, 24)
            self.assertEqual(sum(counts.values()), 2 ** 24)
            self.assertEqual(list(counts), sorted(counts))

    def test_wrong_bounds(self):
        for bound in (-1, 25, 60, 10 ** 30) + WRONG_KINDS:
            with self.subTest(bound=bound):
                with self.assertRaises(InvalidCount):
                    ends_within(rod(1), bound)

    def test_dict_is_free(self):
        rig = rod(1) * 2
        ends_within(rig, 5).clear()
        self.assertEqual(sum(ends_within(rig, 5).values()), 32)


if __name__ == "__main__":
    unittest.main()
