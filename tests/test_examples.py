"""The examples of the interface."""

import unittest

from slackrods.errors import InvalidMemory, NotForward
from slackrods.memories import Memory, memory_of
from slackrods.rigs import rig_of, rod


class ExampleTest(unittest.TestCase):
    def test_rigs(self):
        rig = rod(0) * 2 + rod(3)
        found = [rig([5, 1, 4]), rig.arms, (rod(2) >> rod(3)).arms, rig.pull, rig.curve(10)]
        self.assertEqual(found, [[12, 3, 9], ((0, 2), (3, 1)), ((5, 1),), 3, 27])

    def test_not_forward(self):
        with self.assertRaises(NotForward):
            (rod(1) - rod(2) * 2) >> rod(0)

    def test_rig_of_and_equality(self):
        found = [rig_of([0, 0, 2, 3]).arms, rod(4) + rod(1) == rod(1) + rod(4), len(rod(4) - rod(4))]
        self.assertEqual(found, [((2, 2), (3, -1)), True, 0])

    def test_memories(self):
        memory = memory_of([9, 4, 6, 5])
        found = [memory.places, memory.row, memory(4).places, memory(-1).places]
        self.assertEqual(found, [(0, 9, 4, 6, 5), [9, 4, 6, 5], (0, 9, 4), (-1,)])

    def test_invalid_memory(self):
        with self.assertRaises(InvalidMemory) as caught:
            Memory((0, 9, 9))
        self.assertEqual(caught.exception.index, 2)


if __name__ == "__main__":
    unittest.main()
