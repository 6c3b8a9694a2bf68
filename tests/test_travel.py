"""Tests of [8]: how far the end goes, and areas."""

import unittest

from slackrods.errors import InvalidPlace, InvalidRow
from slackrods.loops import area, travel
from slackrods.rigs import rig_of, rod
from tests import naive
from tests.samples import WRONG_KINDS, WRONG_ROWS, generator, random_chain, random_row, random_sum

FAR = 1000000


class TravelTest(unittest.TestCase):
    def test_example(self):
        self.assertEqual(travel(rod(3), [9, 4, 6]), 8)

    def test_empty_row(self):
        self.assertEqual(travel(rod(0) * 5, []), 0)

    def test_one_rod(self):
        self.assertEqual(travel(rod(0), [5, 2, 2, 4]), 10)
        self.assertEqual(travel(rod(3), [3, 0, 3]), 0)
        self.assertEqual(travel(rod(3), [4, 0, -5]), 7)
        self.assertEqual(travel(rod(3), [-5, -2, -5]), 5)

    def test_down_counts_as_up(self):
        self.assertEqual(travel(rod(0) * -2, [5, 2]), 16)

    def test_no_arms(self):
        self.assertEqual(travel(rod(3) - rod(3), [50, -50]), 0)

    def test_parts_that_cancel(self):
        # Up to 2 the end goes with the first rod, then the second one holds it.
        self.assertEqual(travel(rod(0) - rod(2), [9]), 2)
        # After that the end turns within a move: 2 up, then 7 down.
        self.assertEqual(travel(rod(0) - rod(2) * 2, [9]), 9)
        # On the way back the first rod goes down 2 alone, then both go together.
        self.assertEqual(travel(rod(0) - rod(2), [9, 0]), 4)
        self.assertEqual((rod(0) - rod(2) * 2)([4]), [0])
        self.assertEqual(travel(rod(0) - rod(2) * 2, [4]), 4)

    def test_a_chain_counts_by_steps_of_the_handle(self):
        # Within one step of the handle the second rig can turn; only the whole step counts.
        rig = rod(0) * 3 >> rod(0) - rod(1) * 2
        row = [5, 2, 7, -3, 4]
        sum_of_rods = rod(0) * 0
        for slack, arm in rig.arms:
            sum_of_rods = sum_of_rods + rod(slack) * arm
        self.assertTrue(sum_of_rods == rig)
        self.assertEqual(travel(rig, row), travel(sum_of_rods, row))
        model = naive.Chain(naive.Sum((naive.Rod(0), 3)), naive.Sum((naive.Rod(0), 1), (naive.Rod(1), -2)))
        self.assertEqual(travel(rig, row), naive.travel(model, row))

    def test_far_row(self):
        self.assertEqual(travel(rod(0), [FAR, -FAR] * 500), FAR + 999 * 2 * FAR)
        self.assertEqual(travel(rig_of([FAR]), [FAR, -FAR]), 3 * FAR * FAR)

    def test_sums_against_steps(self):
        chance = generator(22)
        for _ in range(200):
            rig, model = random_sum(chance, False)
            row = random_row(chance, chance.randint(1, 12), -10, 16)
            with self.subTest(arms=rig.arms, row=row):
                self.assertEqual(travel(rig, row), naive.travel(model(), row))

    def test_chains_against_steps(self):
        chance = generator(23)
        for _ in range(120):
            rig, model = random_chain(chance, chance.randint(2, 3))
            row = random_row(chance, chance.randint(1, 12), -10, 25)
            with self.subTest(arms=rig.arms, row=row):
                self.assertEqual(travel(rig, row), naive.travel(model(), row))

    def test_invalid_rows(self):
        for row, index in WRONG_ROWS:
            with self.subTest(row=row), self.assertRaises(InvalidRow) as caught:
                travel(rod(1), row)
            self.assertEqual(caught.exception.index, index)

    def test_row_is_not_changed(self):
        row = [9, 4, 6]
        travel(rod(3), row)
        self.assertEqual(row, [9, 4, 6])


def naive_area(model, height):
    up = naive.all_ends(model, [height])
    back = []
    for place in naive.way(height, 0):
        model.step(place)
        back.append(model.end)
    # The ends at the height itself and at 0 do not count.
    return sum(back[:-1]) - sum(up[:-1])


class AreaTest(unittest.TestCase):
    def test_example(self):
        self.assertEqual(area(rod(2), 5), 6)

    def test_small_heights(self):
        for rig in (rod(0), rod(2), rod(0) * 3 - rod(1) * 7):
            self.assertEqual([area(rig, 0), area(rig, 1)], [0, 0])
        self.assertEqual([area(rod(1), 2), area(rod(0), 2), area(rod(1) * -4, 2)], [1, 0, -4])

    def test_greatest_height(self):
        self.assertEqual(area(rod(0), 1000), 0)
        self.assertEqual(area(rod(1), 1000), 999)
        self.assertEqual(area(rod(7) * 2 - rod(3), 1000), naive_area(
            naive.Sum((naive.Rod(7), 2), (naive.Rod(3), -1)), 1000))

    def test_no_slack_is_used_up(self):
        self.assertEqual(area(rod(9), 9), 0)
        self.assertEqual(area(rod(9), 10), 9)

    def test_against_steps(self):
        chance = generator(24)
        for _ in range(80):
            rig, model = random_chain(chance, chance.randint(1, 3))
            for height in (0, 1, 2, 3, chance.randint(4, 40)):
                with self.subTest(arms=rig.arms, height=height):
                    self.assertEqual(area(rig, height), naive_area(model(), height))

    def test_invalid_heights(self):
        for index, height in enumerate((-1, 1001, FAR, 10 ** 5000) + WRONG_KINDS):
            with self.subTest(index=index), self.assertRaises(InvalidPlace):
                area(rod(1), height)


if __name__ == "__main__":
    unittest.main()
