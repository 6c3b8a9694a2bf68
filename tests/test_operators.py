"""Tests of [3]: rigs put together by operators, and rows."""

import unittest

from slackrods.errors import InvalidRow, InvalidTimes, NotForward
from slackrods.rigs import rig_of, rod
from tests import naive
from tests.samples import WRONG_KINDS, generator, random_chain, random_row, random_sum

FAR = 1000000
ROW = [5, 1, 4, -2, 9, 3, 3, 6, -7, 0, 20, 11, 15, 14]


class OperatorTest(unittest.TestCase):
    def test_example(self):
        self.assertEqual((rod(0) * 2 + rod(3))([5, 1, 4]), [12, 3, 9])

    def test_sum_and_difference(self):
        one, other = rod(1), rod(4)
        self.assertEqual((one + other)(ROW), [a + b for a, b in zip(one(ROW), other(ROW))])
        self.assertEqual((one - other)(ROW), [a - b for a, b in zip(one(ROW), other(ROW))])
        self.assertEqual((other - one)(ROW), [b - a for a, b in zip(one(ROW), other(ROW))])

    def test_negative(self):
        rig = rod(1) * 3 - rod(4)
        self.assertEqual((-rig)(ROW), [-end for end in rig(ROW)])

    def test_multiples(self):
        rig = rod(1) * 3 - rod(4)
        for times in (-99, -98, -1, 0, 1, 2, 98, 99):
            with self.subTest(times=times):
                self.assertEqual((rig * times)(ROW), [end * times for end in rig(ROW)])

    def test_wrong_times(self):
        rig = rod(1)
        for index, times in enumerate((-100, 100, 10 ** 5000) + WRONG_KINDS):
            with self.subTest(index=index), self.assertRaises(InvalidTimes):
                rig * times

    def test_random_sums_step_by_step(self):
        chance = generator(3)
        for _ in range(100):
            rig, model = random_sum(chance, False)
            row = random_row(chance, 20, -12, 15)
            with self.subTest(arms=rig.arms, row=row):
                self.assertEqual(rig(row), naive.ends(model(), row))

    def test_operators_change_nothing(self):
        one, other = rod(1) + rod(3), rod(2) * 2
        before = one.arms, other.arms
        one + other, one - other, -one, one * 5, one >> other
        with self.assertRaises(InvalidTimes):
            one * 100
        with self.assertRaises(NotForward):
            -one >> other
        self.assertEqual((one.arms, other.arms), before)


class ChainTest(unittest.TestCase):
    def assert_chain(self, rigs, model, row):
        rig = rigs[0]
        for other in rigs[1:]:
            rig = rig >> other
        self.assertEqual(rig(row), naive.ends(model, row))

    def test_rods_add_their_slacks(self):
        self.assert_chain([rod(2), rod(3)], naive.Chain(naive.Rod(2), naive.Rod(3)), ROW)

    def test_first_end_passes_all_places_between(self):
        # The lever takes the first end over several places in each step.
        second = naive.Sum((naive.Rod(3), 2), (naive.Rod(5), -1))
        model = naive.Chain(naive.Sum((naive.Rod(0), 7), (naive.Rod(2), 4)), second)
        self.assert_chain([rod(0) * 7 + rod(2) * 4, rod(3) * 2 - rod(5)], model, ROW)

    def test_first_end_that_stops(self):
        model = naive.Chain(naive.Sum((naive.Rod(0), 1), (naive.Rod(5), -1)), naive.Rod(2))
        self.assert_chain([rod(0) - rod(5), rod(2)], model, ROW)

    def test_without_arms(self):
        empty = rod(0) * 0
        self.assertEqual((empty >> rod(3)).arms, ())
        self.assertEqual((rod(3) >> empty).arms, ())

    def test_random_chains_step_by_step(self):
        chance = generator(4)
        for _ in range(150):
            rig, model = random_chain(chance, chance.randint(2, 4))
            row = random_row(chance, 12, -15, 25)
            with self.subTest(arms=rig.arms, row=row):
                self.assertEqual(rig(row), naive.ends(model(), row))

    def test_chain_in_a_chain(self):
        inner, inner_model = rod(1) * 2 >> rod(3), naive.Chain(naive.Sum((naive.Rod(1), 2)), naive.Rod(3))
        model = naive.Chain(naive.Sum((naive.Rod(0), 3)), inner_model)
        self.assert_chain([rod(0) * 3, inner], model, ROW)

    def test_farthest_places(self):
        rig = rod(0) * 99 >> rod(5)
        self.assertEqual(rig([FAR, -FAR, FAR]), [99 * FAR - 5, -99 * FAR, 99 * FAR - 5])


class NotForwardTest(unittest.TestCase):
    def test_example(self):
        with self.assertRaises(NotForward):
            (rod(1) - rod(2) * 2) >> rod(0)

    def test_not_forward(self):
        for rig in (-rod(0), rod(1) - rod(0), rod(0) - rod(3) * 2, rod(0) * 2 - rod(1) * 3 + rod(2) * 5):
            with self.subTest(arms=rig.arms), self.assertRaises(NotForward):
                rig >> rod(0)

    def test_forward_with_negative_arms(self):
        self.assertEqual(((rod(0) - rod(3)) >> rod(0)).arms, ((0, 1), (3, -1)))
        self.assertEqual(((rod(0) * 3 - rod(1) * 2) >> rod(0)).arms, ((0, 3), (1, -2)))

    def test_second_rig_need_not_be_forward(self):
        self.assertEqual((rod(1) >> -rod(2)).arms, ((3, -1),))

    def test_not_forward_comes_before_too_great(self):
        rig = rig_of([1000, 0])
        with self.assertRaises(NotForward):
            rig >> rig_of([1000000])


class RowTest(unittest.TestCase):
    def assert_wrong_row(self, row, index):
        with self.assertRaises(InvalidRow) as caught:
            rod(1)(row)
        self.assertEqual(caught.exception.index, index)

    def test_longest_row(self):
        self.assertEqual(rod(0)([7] * 1000), [7] * 1000)

    def test_too_long_row(self):
        self.assert_wrong_row([7] * 1001, 1000)
        self.assert_wrong_row([7] * 1500, 1000)

    def test_first_invalid_place_of_a_too_long_row(self):
        self.assert_wrong_row([7] * 5 + [FAR + 1] + [7] * 1000, 5)
        self.assert_wrong_row([7] * 1000 + [None], 1000)
        self.assert_wrong_row([7] * 1001 + [None], 1000)

    def test_invalid_place_in_the_middle(self):
        for index, place in enumerate((FAR + 1, -FAR - 1) + WRONG_KINDS):
            with self.subTest(index=index):
                self.assert_wrong_row([1, 2, place, 3, None], 2)

    def test_true_as_the_first_place(self):
        self.assert_wrong_row([True], 0)

    def test_no_list(self):
        for row in (None, (1, 2), (), "12", "", 5, 0, True, False):
            with self.subTest(row=row):
                self.assert_wrong_row(row, 0)

    def test_row_is_not_changed_and_ends_are_the_callers(self):
        rig, row = rod(1), [3, 1]
        ends = rig(row)
        ends.append(9)
        self.assertEqual(row, [3, 1])
        self.assertEqual(rig(row), [2, 1])


if __name__ == "__main__":
    unittest.main()
