"""Tests of [5]: curves, forward rigs, still heights, and rigs of given ends."""

import unittest

from slackrods.errors import InvalidEnds, InvalidPlace, TooGreat
from slackrods.rigs import Rig, rig_of, rod
from tests import naive
from tests.samples import WRONG_KINDS, generator, random_chain, random_sum

FAR = 1000000


class CurveTest(unittest.TestCase):
    def test_example(self):
        self.assertEqual((rod(0) * 2 + rod(3)).curve(10), 27)

    def test_heights(self):
        rig = rod(1) * 2 - rod(3) * 5
        self.assertEqual([rig.curve(height) for height in range(7)], [0, 0, 2, 4, 1, -2, -5])

    def test_limits(self):
        self.assertEqual(rod(99).curve(0), 0)
        self.assertEqual(rod(99).curve(FAR), FAR - 99)
        self.assertEqual((rod(0) * 0).curve(FAR), 0)

    def test_step_by_step(self):
        chance = generator(7)
        for _ in range(40):
            rig, model = random_chain(chance, 2)
            with self.subTest(arms=rig.arms):
                self.assertEqual([rig.curve(height) for height in range(1, 30)], naive.all_ends(model(), [29]))

    def test_invalid_heights(self):
        for index, height in enumerate((-1, FAR + 1, 10 ** 5000) + WRONG_KINDS):
            with self.subTest(index=index), self.assertRaises(InvalidPlace):
                rod(1).curve(height)


class ForwardTest(unittest.TestCase):
    def test_forward(self):
        for rig in (rod(3), rod(0) * 0, rod(0) - rod(3), rod(0) * 3 - rod(1) * 2 + rod(9) - rod(10) * 2):
            with self.subTest(arms=rig.arms):
                self.assertIs(rig.is_forward, True)

    def test_not_forward(self):
        # The second one comes to its negative slope only for a while.
        for rig in (-rod(3), rod(1) - rod(2) * 2 + rod(3) * 5, rod(1) - rod(0), rod(1) * 2 - rod(99) * 3):
            with self.subTest(arms=rig.arms):
                self.assertIs(rig.is_forward, False)

    def test_against_all_steps(self):
        chance = generator(8)
        found = {True: 0, False: 0}
        for _ in range(200):
            rig, model = random_sum(chance, False)
            ends = [0] + naive.all_ends(model(), [8, 0, -1])
            up = all(one <= other for one, other in zip(ends[:9], ends[1:9]))
            down = all(one >= other for one, other in zip(ends[8:], ends[9:]))
            with self.subTest(arms=rig.arms):
                self.assertEqual(rig.is_forward, up and down)
            found[rig.is_forward] += 1
        self.assertGreater(min(found.values()), 20)


class StillTest(unittest.TestCase):
    def test_still(self):
        self.assertEqual(rod(0).still, 0)
        self.assertEqual(rod(99).still, 99)
        self.assertEqual((rod(7) - rod(4) * 2).still, 4)
        self.assertEqual((rod(99) >> rod(99)).still, 198)

    def test_never_moves(self):
        self.assertIsNone((rod(7) - rod(7)).still)

    def test_rods_that_cancel(self):
        # The end is at 0 again at 6, but it was not all the way.
        rig = rod(2) - rod(4) * 2
        self.assertEqual([rig.curve(6), rig.still], [0, 2])

    def test_step_by_step(self):
        chance = generator(9)
        for _ in range(60):
            rig, model = random_chain(chance, 2)
            ends = naive.all_ends(model(), [40])
            moved = [height for height, end in enumerate(ends) if end != 0]
            with self.subTest(arms=rig.arms):
                self.assertEqual(rig.still, moved[0] if moved else None)


class RigOfTest(unittest.TestCase):
    def assert_wrong_ends(self, ends, index):
        with self.assertRaises(InvalidEnds) as caught:
            rig_of(ends)
        self.assertEqual(caught.exception.index, index)

    def test_example(self):
        self.assertEqual(rig_of([0, 0, 2, 3]).arms, ((2, 2), (3, -1)))

    def test_one_end_goes_on(self):
        self.assertIsInstance(rig_of([7]), Rig)
        self.assertEqual(rig_of([7]).arms, ((0, 7),))
        self.assertEqual(rig_of([7]).curve(10), 70)
        self.assertEqual(rig_of([-FAR]).arms, ((0, -FAR),))

    def test_curve_has_the_ends_and_goes_on(self):
        chance = generator(10)
        for many in (1, 2, 3, 10, 59, 60):
            ends = [chance.randint(-1000, 1000) for _ in range(many)]
            rig = rig_of(ends)
            change = ends[-1] - ([0] + ends)[-2]
            with self.subTest(many=many):
                self.assertEqual([rig.curve(height) for height in range(1, many + 1)], ends)
                self.assertEqual([rig.curve(many + k) - ends[-1] for k in (1, 2, 500)], [change, 2 * change, 500 * change])

    def test_makes_a_rig_again(self):
        chance = generator(11)
        for _ in range(40):
            rig, _ = random_chain(chance, 2)
            self.assertTrue(rig_of([rig.curve(height) for height in range(1, 61)]) == rig)

    def test_without_arms(self):
        self.assertEqual(rig_of([0] * 60).arms, ())

    def test_sixty_ends(self):
        self.assertEqual(len(rig_of([height * (height + 1) // 2 for height in range(1, 61)])), 60)

    def test_limits_of_ends(self):
        self.assertEqual(rig_of([FAR, FAR]).arms, ((0, FAR), (1, -FAR)))
        self.assertEqual(rig_of([0, FAR, FAR]).arms, ((1, FAR), (2, -FAR)))
        self.assertEqual(rig_of([-FAR, -FAR]).arms, ((0, -FAR), (1, FAR)))
        for end in (FAR + 1, -FAR - 1):
            self.assert_wrong_ends([end], 0)
            self.assert_wrong_ends([0] * 30 + [end] * 20, 30)
            self.assert_wrong_ends([0] * 59 + [end], 59)

    def test_one_too_many(self):
        self.assert_wrong_ends([0] * 61, 60)
        self.assert_wrong_ends([0] * 200, 60)
        self.assert_wrong_ends([0] * 60 + [None], 60)
        self.assert_wrong_ends([0] * 3 + [None] + [0] * 60, 3)

    def test_none_or_no_list(self):
        for ends in ([], (), (1, 2), None, True, False, 0, 3, "", "12"):
            with self.subTest(ends=ends):
                self.assert_wrong_ends(ends, 0)

    def test_wrong_kinds_of_ends(self):
        for index, end in enumerate(WRONG_KINDS):
            with self.subTest(index=index):
                self.assert_wrong_ends([0, 1, end, None], 2)

    def test_too_great(self):
        for ends in ([FAR, -FAR], [-FAR, FAR], [FAR, FAR - 1], [500000, 0, 500001]):
            with self.subTest(ends=ends), self.assertRaises(TooGreat):
                rig_of(ends)
        self.assertEqual(rig_of([500000, 0, 500000]).arms, ((0, 500000), (1, -FAR), (2, FAR)))

    def test_invalid_ends_come_before_too_great(self):
        self.assert_wrong_ends([FAR, -FAR, None], 2)

    def test_ends_are_not_changed(self):
        ends = [0, 2]
        rig = rig_of(ends)
        self.assertEqual(ends, [0, 2])
        ends.append(5)
        self.assertEqual(rig.arms, ((1, 2),))


if __name__ == "__main__":
    unittest.main()
