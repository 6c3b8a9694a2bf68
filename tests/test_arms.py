"""Tests of [4]: the arms of rigs, their limits, and what is read off them."""

import unittest

from slackrods.errors import InvalidSlack, TooGreat
from slackrods.memories import Memory
from slackrods.rigs import rig_of, rod
from tests import naive
from tests.samples import WRONG_KINDS, generator, random_chain, random_row

GREATEST = 1000000


def long_slack(slack):
    """A rig of one rod with a slack that can be above 99."""
    rig = rod(slack - slack // 99 * 99)
    for _ in range(slack // 99):
        rig = rig >> rod(99)
    return rig


def many_arms(slacks):
    rig = rod(0) * 0
    for slack in slacks:
        rig = rig + long_slack(slack)
    return rig


class ArmsTest(unittest.TestCase):
    def test_examples(self):
        self.assertEqual((rod(0) * 2 + rod(3)).arms, ((0, 2), (3, 1)))
        self.assertEqual((rod(2) >> rod(3)).arms, ((5, 1),))
        self.assertEqual(((rod(0) * 2) >> rod(3)).arms, ((1, 1), (2, 1)))

    def test_sums(self):
        self.assertEqual((rod(5) + rod(1) * 3 - rod(2) + rod(5)).arms, ((1, 3), (2, -1), (5, 2)))
        self.assertEqual((rod(5) - rod(1)).arms, ((1, -1), (5, 1)))
        self.assertEqual((-(rod(5) - rod(1))).arms, ((1, 1), (5, -1)))
        self.assertEqual(((rod(5) - rod(1)) * -3).arms, ((1, 3), (5, -3)))

    def test_arms_of_0_are_left_out(self):
        self.assertEqual((rod(1) + rod(2) - rod(1)).arms, ((2, 1),))
        self.assertEqual((rod(4) - rod(4)).arms, ())
        self.assertEqual((rod(4) * 0).arms, ())
        self.assertEqual((-(rod(4) * 0)).arms, ())

    def test_chains(self):
        self.assertEqual((rod(0) * 3 >> rod(4)).arms, ((1, 2), (2, 1)))
        self.assertEqual((rod(1) + rod(3) >> rod(2)).arms, ((3, 2),))
        self.assertEqual((rod(0) - rod(5) >> rod(2)).arms, ((2, 1), (5, -1)))
        self.assertEqual((rod(0) - rod(5) >> rod(5)).arms, ())
        self.assertEqual((rod(2) >> rod(1) * 2 - rod(4)).arms, ((3, 2), (6, -1)))

    def test_slacks_above_99(self):
        self.assertEqual((rod(99) >> rod(99)).arms, ((198, 1),))
        self.assertEqual(long_slack(998).arms, ((998, 1),))
        self.assertEqual((long_slack(900) * 2 + rod(3)).arms, ((3, 1), (900, 2)))
        model = naive.Chain(naive.Rod(99), naive.Chain(naive.Rod(99), naive.Rod(40)))
        row = [400, 100, 250, -50, 300, 61, 400]
        self.assertEqual((rod(99) >> rod(99) >> rod(40))(row), naive.ends(model, row))

    def test_arms_tell_what_the_rig_does(self):
        chance = generator(5)
        for _ in range(60):
            rig, model = random_chain(chance, chance.randint(1, 3))
            row = random_row(chance, 15, -20, 25)
            parts = [(naive.Rod(slack), arm) for slack, arm in rig.arms]
            with self.subTest(arms=rig.arms, row=row):
                self.assertEqual(naive.ends(naive.Sum(*parts), row), naive.ends(model(), row))
                self.assertEqual(sorted(rig.arms), list(rig.arms))
                self.assertNotIn(0, [arm for _, arm in rig.arms])
                self.assertEqual(len(dict(rig.arms)), len(rig.arms))


class TooGreatTest(unittest.TestCase):
    def test_sixty_arms(self):
        sixty = many_arms(range(60))
        self.assertEqual(len(sixty), 60)
        self.assertEqual(len(sixty + rod(59)), 60)
        self.assertEqual(len(sixty - rod(0) + rod(99)), 60)
        self.assertEqual(len(-sixty), 60)
        self.assertEqual(len(sixty * 99), 60)
        self.assertEqual(len(sixty >> rod(0)), 60)
        self.assertEqual(len(rod(99) >> sixty), 60)

    def test_sixty_one_arms(self):
        sixty = many_arms(range(60))
        with self.assertRaises(TooGreat):
            sixty + rod(60)
        with self.assertRaises(TooGreat):
            rod(60) - sixty

    def test_arms_of_a_chain(self):
        # Behind the lever each rod with an odd slack becomes two arms.
        lever = rod(0) * 2
        odd = many_arms(range(1, 120, 4))
        self.assertEqual(len(odd), 30)
        self.assertEqual(len(lever >> odd), 60)
        with self.assertRaises(TooGreat):
            lever >> odd + long_slack(120)
        with self.assertRaises(TooGreat):
            lever >> odd + long_slack(121)

    def test_greatest_arm_of_sums(self):
        big = rig_of([GREATEST])
        self.assertEqual((big - rod(0) + rod(0))[0], GREATEST)
        self.assertEqual((-big + rod(0) - rod(0))[0], -GREATEST)
        self.assertEqual((big + rod(1)).arms, ((0, GREATEST), (1, 1)))
        with self.assertRaises(TooGreat):
            big + rod(0)
        with self.assertRaises(TooGreat):
            -big - rod(0)
        with self.assertRaises(TooGreat):
            -big + -rod(0)
        with self.assertRaises(TooGreat):
            big - -rod(0)

    def test_greatest_arm_of_multiples(self):
        rig = rig_of([20000])
        self.assertEqual((rig * 50)[0], GREATEST)
        self.assertEqual((rig * -50)[0], -GREATEST)
        for times in (51, -51, 99, -99):
            with self.subTest(times=times), self.assertRaises(TooGreat):
                rig * times

    def test_greatest_arm_of_chains(self):
        self.assertEqual((rig_of([1000]) >> rig_of([1000])).arms, ((0, GREATEST),))
        self.assertEqual((rig_of([1000]) >> rig_of([-1000])).arms, ((0, -GREATEST),))
        with self.assertRaises(TooGreat):
            rig_of([1000]) >> rig_of([1001])
        with self.assertRaises(TooGreat):
            rig_of([1001]) >> rig_of([-1000])

    def test_greatest_slack(self):
        self.assertEqual((long_slack(990) >> rod(9)).arms, ((999, 1),))
        self.assertEqual((long_slack(500) >> long_slack(499)).arms, ((999, 1),))
        with self.assertRaises(TooGreat):
            long_slack(990) >> rod(10)
        with self.assertRaises(TooGreat):
            rod(10) >> long_slack(990)
        with self.assertRaises(TooGreat):
            long_slack(999) >> long_slack(999)

    def test_greatest_slack_behind_a_lever(self):
        self.assertEqual((rod(0) * 2 >> long_slack(999)).arms, ((499, 1), (500, 1)))

    def test_a_slack_that_is_never_used_up_is_not_too_great(self):
        self.assertEqual((long_slack(999) - long_slack(999) >> long_slack(999)).arms, ())
        self.assertEqual((rod(0) - rod(50) >> long_slack(999)).arms, ())


class ReadingTest(unittest.TestCase):
    def test_len_and_truth(self):
        self.assertEqual(len(rod(1) + rod(2) * 5), 2)
        self.assertEqual(len(rod(4) - rod(4)), 0)
        self.assertTrue(rod(99))
        self.assertFalse(rod(4) - rod(4))

    def test_arm_of_a_slack(self):
        rig = rod(0) * -2 + rod(3) + long_slack(999) * 7
        self.assertEqual([rig[slack] for slack in (0, 1, 3, 4, 998, 999)], [-2, 0, 1, 0, 0, 7])

    def test_invalid_slack(self):
        for index, slack in enumerate((-1, 1000, 10 ** 5000) + WRONG_KINDS):
            with self.subTest(index=index), self.assertRaises(InvalidSlack):
                rod(0)[slack]

    def test_pull(self):
        self.assertEqual((rod(0) * 2 + rod(3)).pull, 3)
        self.assertEqual((rod(0) * 2 - rod(3) * 9).pull, -7)
        self.assertEqual((rod(0) * 0).pull, 0)

    def test_equal_rigs(self):
        self.assertTrue(rod(4) + rod(1) == rod(1) + rod(4))
        self.assertTrue(rod(2) >> rod(3) == rod(5))
        self.assertTrue(rod(3) - rod(3) == rod(5) * 0)
        self.assertFalse(rod(4) + rod(1) != rod(1) + rod(4))

    def test_unlike_rigs(self):
        self.assertFalse(rod(4) == rod(5))
        self.assertFalse(rod(4) == rod(4) * 2)
        self.assertFalse(rod(4) == -rod(4))
        self.assertTrue(rod(4) != rod(5))

    def test_equal_just_if_the_ends_are(self):
        chance = generator(6)
        rigs = [random_chain(chance, 2) for _ in range(40)]
        row = [13, 1, 30, -5, 25, 0, 24, 3, 20]
        for one, one_model in rigs[:20]:
            for other, other_model in rigs[20:]:
                alike = naive.all_ends(one_model(), row) == naive.all_ends(other_model(), row)
                self.assertEqual(one == other, alike)

    def test_not_equal_to_anything_else(self):
        for other in (None, True, 1, 0, "rod(1)", ((1, 1),), [], (), Memory((0, 1))):
            with self.subTest(other=other):
                self.assertFalse(rod(1) == other)
                self.assertTrue(rod(1) != other)
                self.assertFalse(other == rod(1))
        self.assertFalse(rod(1) * 0 == ())

    def test_cannot_be_iterated_over(self):
        for rig in (rod(1), rod(1) * 0):
            with self.assertRaises(TypeError):
                iter(rig)
            with self.assertRaises(TypeError):
                list(rig)
            with self.assertRaises(TypeError):
                for _ in rig:
                    pass
            with self.assertRaises(TypeError):
                1 in rig


if __name__ == "__main__":
    unittest.main()
