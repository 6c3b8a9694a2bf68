"""Tests of [6]: memories, and the ends of rigs after them."""

import itertools
import unittest

from slackrods.errors import InvalidMemory, InvalidPlace, InvalidRow
from slackrods.memories import Memory, memory_of
from slackrods.rigs import rod
from tests import naive
from tests.samples import WRONG_KINDS, generator, random_chain, random_row

FAR = 1000000


class RowTest(unittest.TestCase):
    def test_example(self):
        memory = memory_of([9, 4, 6, 5])
        self.assertEqual(memory.places, (0, 9, 4, 6, 5))
        self.assertEqual(memory.row, [9, 4, 6, 5])
        self.assertEqual(memory(4).places, (0, 9, 4))
        self.assertEqual(memory(-1).places, (-1,))

    def test_rest(self):
        self.assertEqual(memory_of([]).places, (0,))
        self.assertEqual(memory_of([0, 0]).places, (0,))
        self.assertEqual(memory_of([7, 0]).places, (0,))

    def test_closed_loops(self):
        self.assertEqual(memory_of([9, 4, 6, 4]).places, (0, 9, 4))
        self.assertEqual(memory_of([9, 4, 6, 3]).places, (0, 9, 3))
        self.assertEqual(memory_of([9, 4, 6, 5, 6]).places, (0, 9, 4, 6))
        self.assertEqual(memory_of([9, 4, 6, 5, 8]).places, (0, 9, 4, 8))
        self.assertEqual(memory_of([9, 4, 6, 5, 9]).places, (0, 9))
        self.assertEqual(memory_of([9, 4, 6, 5, 0]).places, (0,))

    def test_several_loops_at_once(self):
        self.assertEqual(memory_of([20, 2, 18, 4, 16, 6, 14, 3]).places, (0, 20, 2, 18, 3))
        self.assertEqual(memory_of([20, 2, 18, 4, 16, 6, 14, 19]).places, (0, 20, 2, 19))

    def test_new_lowest_places(self):
        self.assertEqual(memory_of([9, -1]).places, (-1,))
        self.assertEqual(memory_of([-4, 3, -4]).places, (-4,))
        self.assertEqual(memory_of([-4, 3, -5]).places, (-5,))
        self.assertEqual(memory_of([-4, 3, -3, 2]).places, (-4, 3, -3, 2))

    def test_new_highest_places(self):
        self.assertEqual(memory_of([9, 4, 10]).places, (0, 10))
        self.assertEqual(memory_of([-4, 9, 4, 9]).places, (-4, 9))
        self.assertEqual(memory_of([-4, 9, 4, FAR]).places, (-4, FAR))

    def test_moves_to_where_the_handle_is(self):
        self.assertEqual(memory_of([9, 9, 4, 4, 6, 6]).places, (0, 9, 4, 6))
        self.assertEqual(memory_of([-4, -4]).places, (-4,))

    def test_against_the_whole_way(self):
        chance = generator(12)
        for reach in (3, 6, 40):
            for _ in range(150):
                row = random_row(chance, chance.randint(1, 15), -reach, reach + 3)
                with self.subTest(row=row):
                    self.assertEqual(memory_of(row).places, naive.memory_places(row))

    def test_long_row(self):
        row = [500 - k // 2 if k % 2 == 0 else -500 + k // 2 for k in range(1000)]
        self.assertEqual(memory_of(row).places, tuple(row[1:]))

    def test_invalid_rows(self):
        rows = [([1] * 1001, 1000), ([1] * 1000 + [None], 1000), ([1, 2, FAR + 1, None], 2), ([-FAR - 1], 0)]
        rows += [([3, wrong], 1) for wrong in WRONG_KINDS]
        rows += [(wrong, 0) for wrong in (None, (1, 2), (), "12", "", 5, True, False)]
        for row, index in rows:
            with self.subTest(row=row), self.assertRaises(InvalidRow) as caught:
                memory_of(row)
            self.assertEqual(caught.exception.index, index)

    def test_longest_row(self):
        self.assertEqual(memory_of([1] * 1000).places, (0, 1))

    def test_row_is_not_changed(self):
        row = [9, 4, 6, 4]
        memory_of(row)
        self.assertEqual(row, [9, 4, 6, 4])


class MemoryTest(unittest.TestCase):
    def assert_wrong_places(self, places, index):
        with self.assertRaises(InvalidMemory) as caught:
            Memory(places)
        self.assertEqual(caught.exception.index, index)

    def test_properties(self):
        memory = Memory((-3, 8, 2, 5))
        self.assertEqual(memory.places, (-3, 8, 2, 5))
        self.assertEqual(memory.place, 5)
        self.assertEqual(memory.row, [-3, 8, 2, 5])
        self.assertEqual(len(memory), 4)

    def test_rest(self):
        rest = Memory((0,))
        self.assertEqual([rest.places, rest.place, rest.row, len(rest)], [(0,), 0, [], 1])

    def test_example(self):
        self.assert_wrong_places((0, 9, 9), 2)

    def test_no_places(self):
        for places in ((), [], [0], [0, 5], None, True, False, 0, -1, "", "0"):
            with self.subTest(places=places):
                self.assert_wrong_places(places, 0)

    def test_first_place(self):
        self.assert_wrong_places((1,), 0)
        self.assert_wrong_places((3, 2, None), 0)
        self.assert_wrong_places((-FAR - 1,), 0)
        self.assertEqual(Memory((-FAR,)).place, -FAR)

    def test_second_place(self):
        self.assert_wrong_places((0, 0), 1)
        self.assert_wrong_places((0, -1), 1)
        self.assert_wrong_places((-5, -6, None), 1)
        self.assert_wrong_places((0, FAR + 1), 1)
        self.assertEqual(Memory((-5, -4)).place, -4)
        self.assertEqual(Memory((0, FAR)).place, FAR)

    def test_further_places(self):
        self.assert_wrong_places((0, 9, 0), 2)
        self.assert_wrong_places((0, 9, -1), 2)
        self.assert_wrong_places((0, 9, 10), 2)
        self.assert_wrong_places((0, 9, 4, 4), 3)
        self.assert_wrong_places((0, 9, 4, 9), 3)
        self.assert_wrong_places((0, 9, 4, 3), 3)
        self.assert_wrong_places((0, 9, 4, 6, 7, 8), 4)
        self.assert_wrong_places((0, 9, 4, 6, 4), 4)
        self.assertEqual(len(Memory((0, 9, 1, 8, 2, 7, 3))), 7)

    def test_wrong_kinds(self):
        for index, wrong in enumerate(WRONG_KINDS):
            with self.subTest(index=index):
                self.assert_wrong_places((wrong,), 0)
                self.assert_wrong_places((-1, wrong), 1)
                self.assert_wrong_places((-1, 9, wrong, 20), 2)
                self.assert_wrong_places((-1, 9, 2, wrong), 3)

    def test_more_than_a_row_of_places(self):
        places = tuple([k if k % 2 == 0 else 9000 - k for k in range(3000)])
        self.assertEqual(len(Memory(places)), 3000)

    def test_moves(self):
        memory = Memory((-2, 9, 4))
        self.assertIsInstance(memory(6), Memory)
        self.assertEqual([memory(place).places for place in (10, 9, 6, 4, 3, -2, -3)], [
            (-2, 10), (-2, 9), (-2, 9, 4, 6), (-2, 9, 4), (-2, 9, 3), (-2,), (-3,)])
        self.assertEqual(memory(FAR).places, (-2, FAR))
        self.assertEqual(memory(-FAR).places, (-FAR,))

    def test_invalid_moves(self):
        for index, place in enumerate((FAR + 1, -FAR - 1, 10 ** 5000) + WRONG_KINDS):
            with self.subTest(index=index), self.assertRaises(InvalidPlace):
                Memory((0, 5))(place)

    def test_never_changes(self):
        memory = Memory((0, 9, 4))
        memory(2), memory(20), memory(-1)
        memory.row.append(7)
        with self.assertRaises(InvalidPlace):
            memory(True)
        self.assertEqual([memory.places, memory.row], [(0, 9, 4), [9, 4]])

    def test_equality(self):
        self.assertTrue(Memory((0, 9)) == memory_of([9, 4, 9]))
        self.assertFalse(Memory((0, 9)) != memory_of([9, 4, 9]))
        self.assertFalse(Memory((0, 9)) == Memory((0, 9, 4)))
        self.assertTrue(Memory((0, 9)) != Memory((-1, 9)))

    def test_not_equal_to_anything_else(self):
        for other in (None, (0, 9), [9], [0, 9], 9, 0, "", True, rod(1)):
            with self.subTest(other=other):
                self.assertFalse(Memory((0, 9)) == other)
                self.assertTrue(Memory((0, 9)) != other)


class ShortestRowTest(unittest.TestCase):
    def test_row_leads_to_the_memory(self):
        chance = generator(13)
        for _ in range(100):
            memory = memory_of(random_row(chance, 8, -10, 12))
            self.assertTrue(memory_of(memory.row) == memory)

    def test_no_shorter_row_leads_to_the_same_memory(self):
        fewest = {}
        for length in range(6):
            for row in itertools.product(range(-2, 4), repeat=length):
                fewest.setdefault(naive.memory_places(row), length)
        # There are 56 memories in this range; one of them has six turns.
        self.assertEqual(len(fewest), 55)
        for places, length in fewest.items():
            self.assertEqual(len(Memory(places).row), length)


class EndTest(unittest.TestCase):
    def test_at_rest(self):
        self.assertEqual((rod(0) * 5 + rod(2)).at(Memory((0,))), 0)

    def test_written_out(self):
        self.assertEqual(rod(3).at(Memory((0, 9, 4, 6, 5))), 4)
        self.assertEqual(rod(1).at(Memory((0, 9, 4, 6, 5))), 5)
        self.assertEqual((rod(1) * 2 - rod(3)).at(Memory((-7,))), -7)
        self.assertEqual((rod(1) * 0).at(Memory((-7, 3))), 0)

    def test_against_the_row_of_the_memory_and_the_row_itself(self):
        chance = generator(14)
        for _ in range(100):
            rig, model = random_chain(chance, chance.randint(1, 3))
            row = random_row(chance, 10, -12, 20)
            memory = memory_of(row)
            with self.subTest(arms=rig.arms, row=row):
                self.assertEqual(rig.at(memory), rig(row)[-1])
                self.assertEqual(rig.at(memory), rig([0] + memory.row)[-1])
                self.assertEqual(rig.at(memory), naive.ends(model(), row)[-1])

    def test_same_memory_same_ends_from_then_on(self):
        chance = generator(15)
        for _ in range(60):
            rig, model = random_chain(chance, 2)
            row, further = random_row(chance, 8, -6, 9), random_row(chance, 8, -9, 12)
            shorter = memory_of(row).row
            with self.subTest(arms=rig.arms, row=row):
                self.assertEqual(naive.ends(model(), row + further)[-8:], rig(shorter + further)[-8:])

    def test_more_places_than_a_row_has(self):
        places = tuple([k if k % 2 == 0 else 9000 - k for k in range(3000)])
        self.assertEqual(rod(0).at(Memory(places)), places[-1])
        self.assertEqual((rod(5) * 2).at(Memory(places)), 2 * (places[-1] - 5))


if __name__ == "__main__":
    unittest.main()
