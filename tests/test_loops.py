"""Tests of [7]: closed loops and open swings."""

import collections
import unittest

from slackrods.errors import InvalidRow
from slackrods.loops import loops, open_swings
from slackrods.memories import Memory, memory_of
from tests import naive
from tests.samples import WRONG_ROWS, generator, random_row

FAR = 1000000


def naive_counts(row):
    return sorted(collections.Counter(naive.closed_loops(row)).items())


class LoopsTest(unittest.TestCase):
    def test_example(self):
        self.assertEqual(loops([9, 4, 6, 4, 0]), {2: 1, 9: 1})
        self.assertEqual(loops([9, 4, 6, 4]), {2: 1})
        self.assertEqual(loops([9, 4, 6]), {})

    def test_nothing_closed(self):
        for row in ([], [0], [0, 0], [-3], [5], [5, 5], [9, 1, 8, 2, 7], [-1, -2, -3]):
            with self.subTest(row=row):
                self.assertEqual(loops(row), {})

    def test_same_heights_are_counted_together(self):
        self.assertEqual(loops([9, 4, 6, 4, 6, 4]), {2: 2})
        self.assertEqual(loops([9, 4, 6, 3, 8, 6, 9]), {2: 2, 6: 1})
        self.assertEqual(loops([5, 0] * 500), {5: 500})

    def test_several_closed_by_one_move(self):
        row = [20, 2, 18, 4, 16, 6]
        self.assertEqual(loops(row), {})
        self.assertEqual(loops(row + [3]), {12: 1})
        self.assertEqual(loops(row + [1]), {12: 1, 16: 1})
        self.assertEqual(loops(row + [0]), {12: 1, 16: 1, 20: 1})
        self.assertEqual(loops(row + [17]), {10: 1})
        self.assertEqual(loops(row + [20]), {10: 1, 14: 1, 18: 1})
        self.assertEqual(loops(row + [30]), {10: 1, 14: 1, 18: 1})

    def test_ends_exactly_where_the_swing_began(self):
        self.assertEqual(loops([9, 4, 6, 5]), {})
        self.assertEqual(loops([9, 4, 6, 4]), {2: 1})
        self.assertEqual(loops([9, 4, 8]), {})
        self.assertEqual(loops([9, 4, 9]), {5: 1})
        self.assertEqual(loops([9, 1]), {})
        self.assertEqual(loops([9, 0]), {9: 1})

    def test_going_on_closes_no_second_loop(self):
        self.assertEqual(loops([9, 4, 9, 12]), {5: 1})
        self.assertEqual(loops([9, 4, 12]), {5: 1})
        self.assertEqual(loops([9, 0, -4, -8]), {9: 1})

    def test_new_lowest_places(self):
        self.assertEqual(loops([9, -1]), {9: 1})
        self.assertEqual(loops([9, 4, 6, -1]), {2: 1, 9: 1})
        self.assertEqual(loops([-4, 3, -4]), {7: 1})
        self.assertEqual(loops([-4, 3, -5]), {7: 1})
        self.assertEqual(loops([-4, 3, -3, 2, -9]), {5: 1, 7: 1})

    def test_moves_to_where_the_handle_is(self):
        self.assertEqual(loops([9, 9, 4, 4, 6, 6, 4, 4, 0, 0]), {2: 1, 9: 1})

    def test_farthest_places(self):
        self.assertEqual(loops([FAR, -FAR, FAR, -FAR]), {FAR: 1, 2 * FAR: 1})

    def test_heights_ascend(self):
        row = [40, 10, 15, 10, 30, 29, 30, 10, 40, 38, 40, 0]
        self.assertEqual(list(loops(row).items()), [(1, 1), (2, 1), (5, 1), (20, 1), (30, 1), (40, 1)])

    def test_against_steps(self):
        chance = generator(20)
        for reach in (2, 6, 25):
            for _ in range(200):
                row = random_row(chance, chance.randint(0, 25), -reach, reach + 3)
                with self.subTest(row=row):
                    self.assertEqual(list(loops(row).items()), naive_counts(row))

    def test_above_rest_and_below_rest(self):
        chance = generator(21)
        for low, high in ((1, 12), (0, 12), (-12, 0), (-12, -1)):
            for _ in range(60):
                row = random_row(chance, 15, low, high)
                with self.subTest(row=row):
                    self.assertEqual(list(loops(row).items()), naive_counts(row))

    def test_long_row(self):
        # From 0 to 500 and back below it is one loop, the later ones are closed by the last move.
        row = [500 - k // 2 if k % 2 == 0 else -500 + k // 2 for k in range(999)] + [500]
        self.assertEqual(loops(row[:-1]), {500: 1})
        self.assertEqual(loops(row), {height: 1 for height in range(4, 999, 2)} | {500: 2})

    def test_invalid_rows(self):
        for row, index in WRONG_ROWS:
            with self.subTest(row=row), self.assertRaises(InvalidRow) as caught:
                loops(row)
            self.assertEqual(caught.exception.index, index)

    def test_row_is_not_changed_and_the_dict_is_free(self):
        row = [9, 4, 6, 4, 0]
        loops(row)[2] = 7
        self.assertEqual(row, [9, 4, 6, 4, 0])
        self.assertEqual(loops(row), {2: 1, 9: 1})


class OpenSwingsTest(unittest.TestCase):
    def test_example(self):
        self.assertEqual(open_swings(memory_of([9, 4, 6])), [9, 5, 2])

    def test_one_place(self):
        self.assertEqual(open_swings(Memory((0,))), [])
        self.assertEqual(open_swings(Memory((-7,))), [])

    def test_several_places(self):
        self.assertEqual(open_swings(Memory((-7, 3))), [10])
        self.assertEqual(open_swings(Memory((-7, 3, -6, 2, 1))), [10, 9, 8, 1])
        self.assertEqual(open_swings(Memory((-FAR, FAR))), [2 * FAR])

    def test_order_is_that_of_the_places(self):
        self.assertEqual(open_swings(Memory((0, 20, 5, 9, 8))), [20, 15, 4, 1])

    def test_more_places_than_a_row_has(self):
        places = tuple([k if k % 2 == 0 else 9000 - k for k in range(3000)])
        heights = open_swings(Memory(places))
        self.assertEqual(len(heights), 2999)
        self.assertEqual([heights[0], heights[1], heights[-1]], [8999, 8997, 3003])

    def test_list_is_free(self):
        memory = Memory((0, 9, 4))
        open_swings(memory).append(1)
        self.assertEqual(open_swings(memory), [9, 5])
        self.assertEqual(memory.places, (0, 9, 4))


if __name__ == "__main__":
    unittest.main()
