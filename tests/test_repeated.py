"""Tests of [9]: rows that are repeated."""

import collections
import unittest

from slackrods.errors import InvalidCount, InvalidRow
from slackrods.repeated import Repeated
from slackrods.rigs import rig_of, rod
from tests import naive
from tests.samples import WRONG_KINDS, WRONG_ROWS, generator, random_chain, random_row

FAR = 1000000
MOST = 10 ** 18
WRONG_COUNTS = (-1, MOST + 1, -MOST, 10 ** 5000) + WRONG_KINDS


def samples(seed, many):
    """Random rigs with their models and rows, of one move too, above 0, below 0 and around it."""
    chance = generator(seed)
    for low, high in ((1, 12), (0, 12), (-12, -1), (-12, 0), (-9, 14)):
        for turn in range(many):
            rig, model = random_chain(chance, chance.randint(1, 3))
            row = random_row(chance, 1 + turn % 7, low, high)
            # A third of the rows leads back to rest, where rest can be.
            yield rig, model, row + [0] if turn % 3 == 0 and low <= 0 <= high else row


class EndTest(unittest.TestCase):
    def test_example(self):
        repeated = Repeated(rod(1), [4, 1])
        self.assertEqual(repeated(1), 1)
        self.assertEqual(repeated.ends, [3, 1])

    def test_no_pass(self):
        self.assertEqual(Repeated(rod(0) * 5, [4, 1])(0), 0)

    def test_first_pass_differs_from_the_second_one(self):
        repeated = Repeated(rod(2), [1, 9, 4])
        self.assertEqual(rod(2)([1, 9, 4]), [0, 7, 4])
        self.assertEqual(repeated.ends, [1, 7, 4])
        self.assertEqual([repeated(count) for count in (0, 1, 2, 3, MOST)], [0, 4, 4, 4, 4])

    def test_below_rest(self):
        repeated = Repeated(rod(2), [-5, -1])
        self.assertEqual([repeated.ends, repeated(1), repeated(MOST)], [[-5, -3], -3, -3])

    def test_one_move(self):
        self.assertEqual([Repeated(rod(2), [7]).ends, Repeated(rod(2), [7])(3)], [[5], 5])
        self.assertEqual([Repeated(rod(2), [-7]).ends, Repeated(rod(2), [-7])(3)], [[-7], -7])
        self.assertEqual([Repeated(rod(2), [0]).ends, Repeated(rod(2), [0])(3)], [[0], 0])

    def test_against_playing(self):
        for rig, model, row in samples(25, 24):
            repeated = Repeated(rig, row)
            played = [0] + naive.ends(model(), row * 6)
            with self.subTest(arms=rig.arms, row=row):
                self.assertEqual([repeated(count) for count in range(7)], played[::len(row)])
                for count in range(1, 6):
                    start = count * len(row) + 1
                    self.assertEqual(repeated.ends, played[start:start + len(row)])

    def test_far_counts(self):
        repeated = Repeated(rig_of([FAR]), [FAR, -FAR, 3] * 300)
        self.assertEqual([repeated(count) for count in (1, 2, MOST - 1, MOST)], [3 * FAR] * 4)

    def test_invalid_counts(self):
        repeated = Repeated(rod(1), [4, 1])
        for index, count in enumerate(WRONG_COUNTS):
            with self.subTest(index=index), self.assertRaises(InvalidCount):
                repeated(count)

    def test_list_is_free(self):
        repeated = Repeated(rod(1), [4, 1])
        repeated.ends.append(7)
        self.assertEqual([repeated.ends, repeated(2)], [[3, 1], 1])


class RowTest(unittest.TestCase):
    def test_empty_row(self):
        with self.assertRaises(InvalidRow) as caught:
            Repeated(rod(1), [])
        self.assertEqual(caught.exception.index, 0)

    def test_invalid_rows(self):
        for row, index in WRONG_ROWS:
            with self.subTest(row=row), self.assertRaises(InvalidRow) as caught:
                Repeated(rod(1), row)
            self.assertEqual(caught.exception.index, index)

    def test_longest_row(self):
        row = [500 - k // 2 if k % 2 == 0 else k // 2 - 500 for k in range(1000)]
        repeated = Repeated(rod(3), row)
        self.assertEqual(repeated.ends, naive.ends(naive.Rod(3), row * 2)[1000:])
        self.assertEqual(repeated.loops_after(1), {500: 1})
        self.assertEqual(repeated.loops_after(2), {height: 1 for height in range(2, 1001, 2)} | {500: 2})

    def test_row_is_neither_changed_nor_kept(self):
        row = [4, 1]
        repeated = Repeated(rod(1), row)
        self.assertEqual(row, [4, 1])
        row.append(50)
        self.assertEqual([repeated.ends, repeated(5), repeated.travel_after(2)], [[3, 1], 1, 9])


class LoopsTest(unittest.TestCase):
    def test_example(self):
        self.assertEqual(Repeated(rod(1), [4, 1]).loops_after(3), {3: 2})

    def test_no_loops_in_the_first_pass(self):
        repeated = Repeated(rod(1), [4, 1])
        self.assertEqual([repeated.loops_after(count) for count in (0, 1, 2)], [{}, {}, {3: 1}])

    def test_loops_of_the_first_pass_only(self):
        repeated = Repeated(rod(1), [9, -4, -4])
        self.assertEqual([repeated.loops_after(count) for count in (1, 2, 3)], [{9: 1}, {9: 1, 13: 1}, {9: 1, 13: 2}])

    def test_never_a_loop(self):
        for row in ([7], [-7], [0, 0], [-2, -5, -5]):
            with self.subTest(row=row):
                self.assertEqual(Repeated(rod(1), row).loops_after(1), {})
        self.assertEqual(Repeated(rod(1), [7]).loops_after(MOST), {})

    def test_against_playing(self):
        for rig, _, row in samples(26, 24):
            repeated = Repeated(rig, row)
            for count in range(6):
                counts = collections.Counter(naive.closed_loops(row * count))
                with self.subTest(row=row, count=count):
                    self.assertEqual(list(repeated.loops_after(count).items()), sorted(counts.items()))

    def test_far_counts(self):
        repeated = Repeated(rod(1), [4, 1, 2, 0])
        self.assertEqual(list(repeated.loops_after(MOST).items()), [(1, MOST), (4, MOST)])
        self.assertEqual(Repeated(rod(1), [4, 1]).loops_after(MOST), {3: MOST - 1})
        self.assertEqual(list(Repeated(rod(1), [9, -5]).loops_after(MOST).items()), [(9, 1), (14, MOST - 1)])

    def test_invalid_counts(self):
        repeated = Repeated(rod(1), [4, 1])
        for index, count in enumerate(WRONG_COUNTS):
            with self.subTest(index=index), self.assertRaises(InvalidCount):
                repeated.loops_after(count)

    def test_dict_is_free(self):
        repeated = Repeated(rod(1), [9, 4, 9, 0])
        for count in (0, 1, 3):
            before = dict(repeated.loops_after(count))
            repeated.loops_after(count)[5] = 77
            self.assertEqual(repeated.loops_after(count), before)


class TravelTest(unittest.TestCase):
    def test_example(self):
        self.assertEqual(Repeated(rod(1), [4, 1]).travel_after(MOST), 4 * MOST + 1)

    def test_first_counts(self):
        repeated = Repeated(rod(1), [4, 1])
        self.assertEqual([repeated.travel_after(count) for count in (0, 1, 2, 3)], [0, 5, 9, 13])

    def test_comes_to_rest(self):
        self.assertEqual([Repeated(rod(2), [9, 7]).travel_after(count) for count in (0, 1, 2, MOST)], [0, 7, 7, 7])
        self.assertEqual(Repeated(rod(2) - rod(2), [9, 7]).travel_after(MOST), 0)

    def test_against_playing(self):
        for rig, model, row in samples(27, 24):
            repeated = Repeated(rig, row)
            for count in range(6):
                with self.subTest(arms=rig.arms, row=row, count=count):
                    self.assertEqual(repeated.travel_after(count), naive.travel(model(), row * count))

    def test_far_counts(self):
        repeated = Repeated(rod(0), [FAR, -FAR])
        self.assertEqual(repeated.travel_after(MOST), 3 * FAR + (MOST - 1) * 4 * FAR)

    def test_invalid_counts(self):
        repeated = Repeated(rod(1), [4, 1])
        for index, count in enumerate(WRONG_COUNTS):
            with self.subTest(index=index), self.assertRaises(InvalidCount):
                repeated.travel_after(count)


class WornTest(unittest.TestCase):
    def test_around_the_travel_of_so_many_passes(self):
        repeated = Repeated(rod(1), [4, 1])
        self.assertEqual([repeated.worn_after(limit) for limit in (0, 4, 5, 6, 8, 9, 10, 12, 13)], [
            1, 1, 2, 2, 2, 3, 3, 3, 4])

    def test_comes_to_rest(self):
        repeated = Repeated(rod(2), [9, 7])
        self.assertEqual([repeated.worn_after(limit) for limit in (0, 6, 7, 8, MOST)], [1, 1, None, None, None])

    def test_never_moves(self):
        for rig, row in ((rod(5), [5, 3, 5]), (rod(5) - rod(5), [9, 0]), (rod(0), [0, 0])):
            with self.subTest(row=row):
                self.assertIsNone(Repeated(rig, row).worn_after(0))

    def test_still_in_the_first_pass_only(self):
        # From 0 up to 3 the slack is not used up, from -2 it is.
        repeated = Repeated(rod(3), [3, -2])
        self.assertEqual([repeated.travel_after(count) for count in (0, 1, 2)], [0, 2, 6])
        self.assertEqual([repeated.worn_after(limit) for limit in (0, 1, 2, 5, 6)], [1, 1, 2, 2, 3])

    def test_against_playing(self):
        for rig, model, row in samples(28, 12):
            repeated = Repeated(rig, row)
            played = [naive.travel(model(), row * count) for count in range(5)]
            limits = [far + change for far in played for change in (-1, 0, 1) if far + change >= 0]
            for limit in [limit for limit in limits if limit < played[-1] or played[-1] == played[-2]]:
                more = [count for count in range(5) if played[count] > limit]
                with self.subTest(arms=rig.arms, row=row, limit=limit):
                    self.assertEqual(repeated.worn_after(limit), more[0] if more else None)

    def test_far_limits(self):
        repeated = Repeated(rod(1), [4, 1])
        for count in (MOST // 5, MOST // 4 - 1):
            far = repeated.travel_after(count)
            with self.subTest(count=count):
                self.assertEqual([repeated.worn_after(far + change) for change in (-1, 0, 1)], [
                    count, count + 1, count + 1])
        self.assertEqual(repeated.worn_after(MOST), MOST // 4)

    def test_greatest_limit(self):
        # Each pass but the first one travels 2, the first one 3.
        repeated = Repeated(rod(0), [2, 1])
        self.assertEqual(repeated.worn_after(MOST), MOST // 2)
        self.assertGreater(repeated.travel_after(MOST // 2), MOST)
        self.assertLessEqual(repeated.travel_after(MOST // 2 - 1), MOST)

    def test_invalid_limits(self):
        repeated = Repeated(rod(1), [4, 1])
        for index, limit in enumerate(WRONG_COUNTS):
            with self.subTest(index=index), self.assertRaises(InvalidCount):
                repeated.worn_after(limit)


if __name__ == "__main__":
    unittest.main()
