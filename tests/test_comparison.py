"""Tests of [10]: where rigs are unlike first, and chains and sums that do the same."""

import itertools
import unittest

from slackrods.comparison import chain_for, first_unlike, sum_for
from slackrods.errors import InvalidCount, NotForward, TooGreat
from slackrods.rigs import rig_of, rod
from tests import naive
from tests.samples import WRONG_KINDS, generator, random_chain, random_sum

FAR = 1000000


class FirstUnlikeTest(unittest.TestCase):
    def test_example(self):
        self.assertEqual(first_unlike(rod(2), rod(5)), 3)

    def test_positive_place_only(self):
        # The pulls are equal, so the ends are alike at all places below 0.
        self.assertEqual(first_unlike(rod(0), rod(1)), 1)
        self.assertEqual(first_unlike(rod(7) + rod(3), rod(3) + rod(9)), 8)
        self.assertEqual(first_unlike(rod(4) - rod(6), rod(1) * 0), 5)

    def test_negative_place_is_nearer(self):
        self.assertEqual(first_unlike(rod(2), rod(2) * 2), -1)
        self.assertEqual(first_unlike(rod(1), rod(1) * 0), -1)
        self.assertEqual(first_unlike(rod(0) + rod(9), rod(0) - rod(9)), -1)

    def test_two_equally_near_places(self):
        self.assertEqual(first_unlike(rod(0), rod(0) * 2), 1)
        self.assertEqual(first_unlike(rod(0) + rod(3), rod(3)), 1)
        self.assertEqual(first_unlike(rod(0) * 0, rod(0)), 1)

    def test_equal_rigs(self):
        self.assertIsNone(first_unlike(rod(2) >> rod(3), rod(5)))
        self.assertIsNone(first_unlike(rod(0) * 2 >> rod(3), rod(2) + rod(1)))
        self.assertIsNone(first_unlike(rod(4) - rod(4), rod(9) * 0))

    def test_greatest_slack(self):
        rig = rod(99)
        for _ in range(9):
            rig = rig >> rod(99)
        rig = rig >> rod(9)
        self.assertEqual(rig.arms, ((999, 1),))
        self.assertEqual(first_unlike(rig + rod(0), rod(0) * 2), 1)
        self.assertEqual(first_unlike(rig - rod(5), rod(99) - rod(5)), 100)
        self.assertEqual(first_unlike(rig - rig, rig), -1)

    def test_rigs_whose_difference_would_be_too_great(self):
        rig = rig_of([FAR])
        self.assertEqual(first_unlike(rig, -rig), 1)
        rig = rod(5) >> rig
        self.assertEqual(first_unlike(rig, -rig), -1)

    def test_against_one_move_to_each_place(self):
        chance = generator(29)
        found = {}
        for turn in range(400):
            one, _ = random_sum(chance, False)
            other, _ = random_sum(chance, False)
            if turn % 2:
                # A pull like that of the first one leaves the places above 0.
                other = other + rod(6) * (one.pull - other.pull)
            near = [place for far in range(1, 30) for place in (far, -far) if one([place]) != other([place])]
            first = near[0] if near else None
            with self.subTest(one=one.arms, other=other.arms):
                self.assertEqual(first_unlike(one, other), first)
                self.assertEqual(first_unlike(other, one), first)
            found[first] = found.get(first, 0) + 1
        self.assertTrue({-1, 1, 2, 3} <= set(found))

    def test_models_of_rigs_without_an_unlike_place_are_alike(self):
        chance = generator(30)
        for _ in range(60):
            one, one_model = random_chain(chance, 2)
            other, other_model = random_chain(chance, 2)
            place = first_unlike(one, other)
            for far in range(1, 30 if place is None else abs(place)):
                self.assertEqual(naive.ends(one_model(), [far]), naive.ends(other_model(), [far]))
            if place is not None:
                self.assertNotEqual(naive.ends(one_model(), [place]), naive.ends(other_model(), [place]))


def all_lists(many, most):
    """All lists of one to so many indexes, the shortest first, then in list order."""
    for length in range(1, most + 1):
        yield from map(list, itertools.product(range(many), repeat=length))


def chain_of(rigs):
    whole = rigs[0]
    for rig in rigs[1:]:
        whole = whole >> rig
    return whole


def sum_of(rigs):
    whole = rigs[0]
    for rig in rigs[1:]:
        whole = whole + rig
    return whole


def put_together(put, rigs):
    try:
        return put(rigs)
    except (NotForward, TooGreat):
        return None


def chain_by_trying(rig, rigs, most):
    for indexes in all_lists(len(rigs), most):
        if put_together(chain_of, [rigs[index] for index in indexes]) == rig:
            return indexes
    return None


def sum_by_trying(rig, rigs, most):
    for indexes in all_lists(len(rigs), most):
        if indexes == sorted(indexes) and put_together(sum_of, [rigs[index] for index in indexes]) == rig:
            return indexes
    return None


def small_rigs(chance, many):
    """Rigs with few and small arms, so that they often make up one another."""
    return [rod(chance.randint(0, 3)) * chance.choice((1, 1, 2, -1)) for _ in range(many)]


class ChainTest(unittest.TestCase):
    def test_example(self):
        self.assertEqual(chain_for(rod(7), [rod(2), rod(3), rod(5)], 2), [0, 2])

    def test_one_rig(self):
        self.assertEqual(chain_for(rod(7), [rod(2), rod(7), rod(7)], 1), [1])
        self.assertEqual(chain_for(-rod(7), [-rod(7)], 3), [0])

    def test_shortest(self):
        self.assertEqual(chain_for(rod(6), [rod(2), rod(4), rod(6)], 3), [2])
        self.assertEqual(chain_for(rod(6), [rod(2), rod(4)], 3), [0, 1])
        self.assertIsNone(chain_for(rod(6), [rod(2), rod(4)], 1))

    def test_first_in_list_order(self):
        self.assertEqual(chain_for(rod(6), [rod(5), rod(4), rod(3), rod(2), rod(1)], 2), [0, 4])
        self.assertEqual(chain_for(rod(6), [rod(2), rod(4), rod(2)], 2), [0, 1])
        self.assertEqual(chain_for(rod(6), [rod(4), rod(2), rod(2)], 2), [0, 1])

    def test_an_index_comes_again(self):
        self.assertEqual(chain_for(rod(6), [rod(9), rod(2)], 3), [1, 1, 1])
        self.assertEqual(chain_for(rod(7), [rod(2), rod(3)], 3), [0, 0, 1])

    def test_order_of_driving(self):
        lever = rod(0) * 2
        self.assertEqual(chain_for(lever >> rod(3), [rod(3), lever], 2), [1, 0])
        self.assertEqual(chain_for(rod(3) >> lever, [rod(3), lever], 2), [0, 1])

    def test_chains_that_are_not_forward_are_passed_over(self):
        backward = -rod(0)
        self.assertEqual(chain_for(rod(4), [backward, rod(2)], 2), [1, 1])
        self.assertEqual(chain_for(-rod(4), [backward, rod(2)], 3), [1, 1, 0])
        self.assertIsNone(chain_for(rod(0), [backward], 2))

    def test_chains_that_are_too_great_are_passed_over(self):
        great, hold = rig_of([0, 1, 1003]), rod(0) - rod(1)
        with self.assertRaises(TooGreat):
            great >> great
        # Put together from the right it would be none too great.
        self.assertTrue(great >> (great >> hold) == rod(2) - rod(3))
        self.assertIsNone(chain_for(rod(2) - rod(3), [great, hold], 3))
        self.assertEqual(chain_for(rod(1) - rod(2), [great, hold], 3), [0, 1])

    def test_none(self):
        self.assertIsNone(chain_for(rod(7), [rod(2), rod(4)], 3))
        self.assertIsNone(chain_for(rod(0) * 0, [rod(0)], 3))

    def test_against_all_lists(self):
        chance = generator(31)
        found = {}
        for turn in range(250):
            rigs = small_rigs(chance, chance.randint(1, 4))
            if turn % 5 == 0:
                rigs.append(rod(2) - rod(0))
            most = chance.randint(1, 3)
            parts = [chance.choice(rigs) for _ in range(chance.randint(1, 3))]
            rig = put_together(chain_of, parts)
            if rig is None:
                rig = rod(chance.randint(0, 6))
            expected = chain_by_trying(rig, rigs, most)
            with self.subTest(rig=rig.arms, rigs=[part.arms for part in rigs], most=most):
                self.assertEqual(chain_for(rig, rigs, most), expected)
            length = 0 if expected is None else len(expected)
            found[length] = found.get(length, 0) + 1
        self.assertEqual(sorted(found), [0, 1, 2, 3])


class SumTest(unittest.TestCase):
    def test_example(self):
        self.assertEqual(sum_for(rod(2) * 2 + rod(5), [rod(2), rod(3), rod(5)], 3), [0, 0, 2])

    def test_one_rig(self):
        self.assertEqual(sum_for(rod(7) - rod(2), [rod(2), rod(7) - rod(2)], 3), [1])

    def test_shortest_and_first(self):
        rigs = [rod(1), rod(2), rod(1) + rod(2), rod(2) * 2, rod(1) - rod(2)]
        self.assertEqual(sum_for(rod(1) * 2 + rod(2) * 2, rigs, 3), [2, 2])
        self.assertEqual(sum_for(rod(1) + rod(2) * 2, rigs, 3), [0, 3])
        self.assertEqual(sum_for(rod(1), rigs, 3), [0])
        self.assertEqual(sum_for(rod(1) * 2, rigs, 3), [0, 0])
        self.assertEqual(sum_for(rod(1) * 2 - rod(2), rigs, 3), [0, 4])

    def test_indexes_ascend(self):
        self.assertEqual(sum_for(rod(5) + rod(2), [rod(5), rod(2)], 2), [0, 1])
        self.assertEqual(sum_for(rod(5) + rod(2), [rod(2), rod(5)], 2), [0, 1])
        self.assertEqual(sum_for(rod(5) + rod(2) * 2, [rod(5), rod(2)], 3), [0, 1, 1])

    def test_an_index_comes_again(self):
        self.assertEqual(sum_for(rod(1) * 3, [rod(9), rod(1)], 3), [1, 1, 1])

    def test_cancelling(self):
        self.assertEqual(sum_for(rod(1) * 0, [rod(1), -rod(1)], 3), [0, 1])

    def test_sums_that_raise_are_passed_over(self):
        great = rig_of([FAR])
        # The sum of the first two would be too great on the way.
        self.assertIsNone(sum_for(great + rod(1), [great, rod(0) + rod(1), -rod(0)], 3))
        self.assertEqual(sum_for(great + rod(1), [great, -rod(0), rod(0) + rod(1)], 3), [0, 1, 2])
        self.assertIsNone(sum_for(rod(5), [great, -great], 3))

    def test_none(self):
        self.assertIsNone(sum_for(rod(1) * 4, [rod(1)], 3))
        self.assertIsNone(sum_for(rod(1) * 2, [rod(1)], 1))

    def test_against_all_lists(self):
        chance = generator(32)
        found = {}
        for _ in range(250):
            rigs = small_rigs(chance, chance.randint(1, 5))
            most = chance.randint(1, 3)
            rig = sum_of([chance.choice(rigs + [rod(1)]) for _ in range(chance.randint(1, 3))])
            expected = sum_by_trying(rig, rigs, most)
            with self.subTest(rig=rig.arms, rigs=[part.arms for part in rigs], most=most):
                self.assertEqual(sum_for(rig, rigs, most), expected)
            length = 0 if expected is None else len(expected)
            found[length] = found.get(length, 0) + 1
        self.assertEqual(sorted(found), [0, 1, 2, 3])


class ArgumentTest(unittest.TestCase):
    def assert_refused(self, rigs, most):
        for find in (chain_for, sum_for):
            with self.assertRaises(InvalidCount):
                find(rod(1), rigs, most)

    def test_numbers(self):
        for index, most in enumerate((0, 4, -1, 10 ** 5000) + WRONG_KINDS):
            with self.subTest(index=index):
                self.assert_refused([rod(1)], most)

    def test_numbers_of_rigs(self):
        eight = [rod(slack) for slack in range(8, 0, -1)]
        self.assertEqual([find(rod(1), eight, 3) for find in (chain_for, sum_for)], [[7], [7]])
        self.assert_refused([], 1)
        self.assert_refused(eight + [rod(9)], 1)

    def test_no_list_of_rigs(self):
        for index, rigs in enumerate((None, True, False, 1, 0, "1", "", (), (rod(1),), 1.0)):
            with self.subTest(index=index):
                self.assert_refused(rigs, 1)

    def test_a_list_of_others(self):
        for index, wrong in enumerate((1, 0) + WRONG_KINDS):
            with self.subTest(index=index):
                self.assert_refused([wrong], 1)
                self.assert_refused([rod(1), wrong], 1)

    def test_rigs_are_not_changed_and_the_list_is_free(self):
        rigs = [rod(2), rod(3)]
        for find, rig in ((chain_for, rod(5)), (sum_for, rod(2) + rod(3))):
            find(rig, rigs, 2).append(7)
            self.assertEqual(find(rig, rigs, 2), [0, 1])
        self.assertEqual([rig.arms for rig in rigs], [((2, 1),), ((3, 1),)])


if __name__ == "__main__":
    unittest.main()
