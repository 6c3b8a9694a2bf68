"""The examples of the interface."""

import unittest

from slackrods.codes import encode
from slackrods.comparison import chain_for, first_unlike, sum_for
from slackrods.errors import InvalidMemory, NotationError, NotForward
from slackrods.extremes import greatest_end
from slackrods.live import Live
from slackrods.loops import area, loops, open_swings, travel
from slackrods.memories import Memory, memory_of
from slackrods.notation import parse, text_of
from slackrods.numbering import ends_within, memory_count, memory_number, nth_memory
from slackrods.panels import Panel
from slackrods.plans import fewest_moves, moves_to
from slackrods.recordings import recorded, shortened
from slackrods.repeated import Repeated
from slackrods.rigs import rig_of, rod
from slackrods.watchers import rod_watcher


class ExampleTest(unittest.TestCase):
    def test_rigs(self):
        rig = rod(0) * 2 + rod(3)
        found = [rig([5, 1, 4]), rig.arms, (rod(2) >> rod(3)).arms, rig.pull, rig.curve(10)]
        self.assertEqual(found, [[12, 3, 9], ((0, 2), (3, 1)), ((5, 1),), 3, 27])

    def test_not_forward(self):
        with self.assertRaises(NotForward):
            (rod(1) - rod(2) * 2) >> rod(0)

    def test_rig_of_and_equality(self):
        found = [rig_of([0, 0, 2, 3]).arms, rod(4) + rod(1) == rod(1) + rod(4), len(rod(4) - rod(4))]
        self.assertEqual(found, [((2, 2), (3, -1)), True, 0])

    def test_memories(self):
        memory = memory_of([9, 4, 6, 5])
        found = [memory.places, memory.row, memory(4).places, memory(-1).places]
        self.assertEqual(found, [(0, 9, 4, 6, 5), [9, 4, 6, 5], (0, 9, 4), (-1,)])

    def test_invalid_memory(self):
        with self.assertRaises(InvalidMemory) as caught:
            Memory((0, 9, 9))
        self.assertEqual(caught.exception.index, 2)

    def test_loops(self):
        found = [loops([9, 4, 6, 4, 0]), open_swings(memory_of([9, 4, 6])), travel(rod(3), [9, 4, 6]), area(rod(2), 5)]
        self.assertEqual(found, [{2: 1, 9: 1}, [9, 5, 2], 8, 6])

    def test_repeated(self):
        repeated = Repeated(rod(1), [4, 1])
        found = [repeated(1), repeated.ends, repeated.loops_after(3), repeated.travel_after(10 ** 18)]
        self.assertEqual(found, [1, [3, 1], {3: 2}, 4000000000000000001])

    def test_comparison(self):
        parts = [rod(2), rod(3), rod(5)]
        found = [first_unlike(rod(2), rod(5)), chain_for(rod(7), parts, 2), sum_for(rod(2) * 2 + rod(5), parts, 3)]
        self.assertEqual(found, [3, [0, 2], [0, 0, 2]])

    def test_plans(self):
        found = [
            fewest_moves(memory_of([9, 4, 7]), memory_of([9, 5])),
            moves_to(rod(3), Memory((0,)), 2, 2, (0, 6)),
        ]
        self.assertEqual(found, [[9, 5], [5, 2]])

    def test_extremes(self):
        found = [greatest_end(rod(0) - rod(2), (0, 3))[0], greatest_end(rod(1), (-4, 5))[0]]
        self.assertEqual(found, [2, 4])

    def test_numbering(self):
        found = [
            memory_count(3), nth_memory(3, 5).places, memory_number(Memory((0, 2, 1)), 3), ends_within(rod(1), 2),
        ]
        self.assertEqual(found, [8, (0, 3, 1), 3, {0: 2, 1: 2}])

    def test_watchers(self):
        watcher = rod_watcher(3, 2)
        found = [watcher.see(3, 2), watcher.candidates, watcher.possible_ends(4), watcher.telling_move(9)]
        self.assertEqual(found, [2, [(1, 1), (2, 2)], [3, 4], 1])

    def test_notation(self):
        found = [parse("rod(1) * 2 + rod(2) >> rod(3)").arms, text_of(rod(3) - rod(1) * 4)]
        self.assertEqual(found, [((2, 2), (3, 1)), "-rod(1) * 4 + rod(3)"])

    def test_wrong_notation(self):
        with self.assertRaises(NotationError) as caught:
            parse("rod(5) + ro")
        self.assertEqual(caught.exception.index, 11)

    def test_codes(self):
        self.assertEqual(encode(rod(5)), [82, 1, 0, 5, 0, 0, 0, 1, 214])

    def test_live(self):
        live = Live(rod(2))
        results = live.apply([("move", 5), ("move", 4), ("back",), ("undo",)])
        found = [results, live.moves, live.change(rod(0)), live.end]
        self.assertEqual(found, [[3, 3, 3, True], [5, 4], True, 4])

    def test_recordings(self):
        found = [recorded(rod(1), [3, 1, 2]), shortened(recorded(rod(1), [3, 1, 3, 2]))]
        self.assertEqual(found, [[(3, 2), (1, 1), (2, 1)], [(3, 2), (2, 2)]])

    def test_panels(self):
        panel = Panel({"a": rod(1), "b": rod(0) - rod(2)})
        found = [panel([3]), panel.ranking(memory_of([1])), panel.first_change([3, 0, 1])]
        self.assertEqual(found, [{"a": [2], "b": [2]}, ["b", "a"], 2])


if __name__ == "__main__":
    unittest.main()
