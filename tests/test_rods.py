"""Tests of [2] and of what [1] says about arguments."""

import unittest

from slackrods.errors import InvalidSlack, RodError
from slackrods.rigs import Rig, rod
from tests import naive
from tests.samples import WRONG_KINDS, generator, random_row

FAR = 1000000


class RodTest(unittest.TestCase):
    def test_rod_is_a_rig_of_one_rod(self):
        self.assertIsInstance(rod(7), Rig)
        self.assertEqual(rod(7).arms, ((7, 1),))

    def test_written_out(self):
        # Up behind the slack, down at once when pushed, and still in between.
        self.assertEqual(rod(3)([2, 3, 4, 7, 6, 4, 3, 5, 6, 7]), [0, 0, 1, 4, 4, 4, 3, 3, 3, 4])

    def test_at_rest(self):
        self.assertEqual(rod(3)([]), [])
        self.assertEqual(rod(3)([0, 0]), [0, 0])

    def test_slack_0_is_at_the_handle(self):
        self.assertEqual(rod(0)([5, -4, -4, 9, 0]), [5, -4, -4, 9, 0])

    def test_slack_99(self):
        self.assertEqual(rod(99)([99, 100, 1, 0, -5, 94, 95, 0]), [0, 1, 1, 0, -5, -5, -4, -4])

    def test_first_moves_below_0(self):
        self.assertEqual(rod(2)([-3, -1, 0, 4, -3]), [-3, -3, -2, 2, -3])

    def test_farthest_places(self):
        self.assertEqual(rod(99)([FAR, -FAR, FAR]), [FAR - 99, -FAR, FAR - 99])
        self.assertEqual(rod(0)([-FAR, FAR]), [-FAR, FAR])

    def test_farthest_places_step_by_step(self):
        row = [-FAR, FAR, FAR - 5]
        self.assertEqual(rod(4)(row), naive.ends(naive.Rod(4), row))

    def test_rows_that_turn_step_by_step(self):
        chance = generator(2)
        for slack in (0, 1, 2, 3, 7, 20, 98, 99):
            for reach in (4, 30, 250):
                row = random_row(chance, 40, -reach, reach)
                with self.subTest(slack=slack, row=row):
                    self.assertEqual(rod(slack)(row), naive.ends(naive.Rod(slack), row))

    def test_each_single_step(self):
        row = [9, 4, 6, -3, 0, -1, 12, 5]
        passed = [0]
        for place in row:
            passed.extend(naive.way(passed[-1], place))
        for slack in (0, 1, 2, 5):
            with self.subTest(slack=slack):
                self.assertEqual(rod(slack)(passed[1:]), naive.all_ends(naive.Rod(slack), row))

    def test_wrong_slacks(self):
        for index, slack in enumerate((-1, 100, 10 ** 6, -(10 ** 5000)) + WRONG_KINDS):
            with self.subTest(index=index), self.assertRaises(InvalidSlack):
                rod(slack)

    def test_errors_are_rod_errors_and_value_errors(self):
        with self.assertRaises(RodError):
            rod(100)
        with self.assertRaises(ValueError):
            rod(100)


if __name__ == "__main__":
    unittest.main()
