"""Tests of [12]: the greatest end."""

import unittest

from slackrods.errors import InvalidRange
from slackrods.extremes import greatest_end
from slackrods.memories import Memory
from slackrods.rigs import rig_of, rod
from tests import naive
from tests.samples import WRONG_KINDS, generator, model_of_arms, random_chain

WRONG_SPANS = (
    None, True, False, 0, 5, "", "01", (), (0,), (0, 1, 2), [], [0, 1], [0, 0],
    (1, 5), (1, 1), (-201, 0), (-5, -1), (-5, 201), (0, 201), (-1000000, 1000000), (3, 0),
) + tuple([(wrong, 0) for wrong in WRONG_KINDS]) + tuple([(0, wrong) for wrong in WRONG_KINDS])


def greatest_by_trying(model, span):
    """The greatest end of all memories in a range, and the set of the memories with it."""
    ends = {places: naive.ends(model(), list(places))[-1] for places in naive.all_memories(*span)}
    greatest = max(ends.values())
    return greatest, {places for places, end in ends.items() if end == greatest}


class GreatestEndTest(unittest.TestCase):
    def check(self, rig, model, span):
        with self.subTest(arms=rig.arms, span=span):
            found = greatest_end(rig, span)
            self.assertEqual([type(found), len(found), type(found[1])], [tuple, 2, Memory])
            greatest, memories = greatest_by_trying(model, span)
            self.assertEqual(found[0], greatest)
            self.assertIn(found[1].places, memories)

    def test_examples(self):
        self.assertEqual(greatest_end(rod(0) - rod(2), (0, 3))[0], 2)
        self.assertEqual(greatest_end(rod(1), (-4, 5))[0], 4)

    def test_one_rod_goes_up(self):
        greatest, memory = greatest_end(rod(3), (-2, 9))
        self.assertEqual([greatest, rod(3).at(memory), memory.places[1]], [6, 6, 9])

    def test_only_the_way_down_helps(self):
        greatest, memory = greatest_end(-rod(1), (-7, 4))
        self.assertEqual([greatest, memory.places], [7, (-7,)])

    def test_lowest_place_and_swings(self):
        # Down to -4 the end goes up by 8, and by 2 more before the second rod moves.
        greatest, memory = greatest_end(rod(0) - rod(2) * 3, (-4, 5))
        self.assertEqual([greatest, memory.places], [10, (-4, -2)])

    def test_range_of_one_place(self):
        for rig in (rod(0), -rod(0), rod(5) * 9 - rod(0), rod(0) * 0):
            greatest, memory = greatest_end(rig, (0, 0))
            self.assertEqual([greatest, memory.places], [0, (0,)])

    def test_ranges_on_one_side(self):
        for rig in (rod(0), -rod(1), rod(0) - rod(2) * 2, rod(1) * 3 - rod(0) * 2):
            for span in ((-5, 0), (0, 5), (-1, 0), (0, 1)):
                self.check(rig, model_of_arms(rig.arms), span)

    def test_rig_without_arms(self):
        greatest, memory = greatest_end(rod(3) - rod(3), (-9, 9))
        self.assertEqual(greatest, 0)
        self.assertTrue(-9 <= min(memory.places) and max(memory.places) <= 9)

    def test_negative_arms(self):
        chance = generator(36)
        for _ in range(60):
            arms = [(chance.randint(0, 5), chance.randint(-4, 2)) for _ in range(chance.randint(1, 4))]
            rig = rod(0) * 0
            for slack, arm in arms:
                rig = rig + rod(slack) * arm
            self.check(rig, model_of_arms(arms), (-chance.randint(0, 3), chance.randint(0, 5)))

    def test_chains(self):
        chance = generator(37)
        for _ in range(60):
            rig, model = random_chain(chance, chance.randint(2, 3))
            self.check(rig, model, (-chance.randint(0, 3), chance.randint(0, 5)))

    def test_random_curves(self):
        chance = generator(38)
        for _ in range(80):
            rig = rig_of([chance.randint(-9, 9) for _ in range(chance.randint(1, 9))])
            self.check(rig, model_of_arms(rig.arms), (-chance.randint(0, 3), chance.randint(0, 6)))

    def test_far_ranges(self):
        chance = generator(39)
        for _ in range(5):
            rig = rig_of([chance.randint(-99, 99) for _ in range(60)])
            greatest, memory = greatest_end(rig, (-200, 200))
            self.assertEqual(rig.at(memory), greatest)
            self.assertTrue(-200 <= min(memory.places) and max(memory.places) <= 200)
            self.assertGreaterEqual(greatest, greatest_end(rig, (-199, 200))[0])
            self.assertGreaterEqual(greatest, greatest_end(rig, (-200, 199))[0])

    def test_far_range_with_known_ends(self):
        self.assertEqual(greatest_end(rod(99), (-200, 200))[0], 101)
        self.assertEqual(greatest_end(-rod(99), (-200, 200))[0], 200)
        # A swing up to an odd height adds 1, a swing down by an even one too.
        rig = rig_of([(-1) ** height for height in range(60)])
        greatest, memory = greatest_end(rig, (0, 60))
        self.assertEqual([greatest, len(memory)], [59, 60])

    def test_rig_and_its_opposite(self):
        # The curve of this rig rises and falls; its opposite has its greatest end elsewhere.
        rig = rig_of([3, -2, 5, 5, -1])
        self.check(rig, model_of_arms(rig.arms), (-2, 6))
        self.check(-rig, model_of_arms((-rig).arms), (-2, 6))

    def test_wrong_ranges(self):
        for span in WRONG_SPANS:
            with self.subTest(span=span):
                with self.assertRaises(InvalidRange):
                    greatest_end(rod(1), span)

    def test_ranges_at_the_limits(self):
        for span in ((-200, 0), (0, 200), (-200, 200)):
            greatest, memory = greatest_end(rod(0), span)
            self.assertEqual([greatest, memory.place], [span[1], span[1]])


if __name__ == "__main__":
    unittest.main()
