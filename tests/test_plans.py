"""Tests of [11]: fewest moves to a memory, and moves to a place and an end."""

import itertools
import unittest

from slackrods.errors import InvalidPlace, InvalidRange
from slackrods.memories import Memory, memory_of
from slackrods.plans import fewest_moves, moves_to
from slackrods.rigs import rod
from tests import naive
from tests.samples import WRONG_KINDS, generator, random_chain, random_row

FAR = 1000000


def after(memory, moves):
    for place in moves:
        memory = memory(place)
    return memory


def all_memories(low, high):
    """The places of all memories in a small range."""
    found = {(0,)}
    for _ in range(high - low + 1):
        found |= {Memory(places)(place).places for places in found for place in range(low, high + 1)}
    return sorted(found)


def fewest_by_trying(places, low, high):
    """For each memory that can be reached by moves in a range: how many moves it takes."""
    fewest = {places: 0}
    new = [places]
    while new:
        reached = []
        for start in new:
            for place in range(low, high + 1):
                goal = naive.memory_places(list(start) + [place])
                if goal not in fewest:
                    fewest[goal] = fewest[start] + 1
                    reached.append(goal)
        new = reached
    return fewest


class FewestMovesTest(unittest.TestCase):
    def test_example(self):
        self.assertEqual(fewest_moves(memory_of([9, 4, 7]), memory_of([9, 5])), [9, 5])

    def test_same_memory(self):
        for places in ((0,), (-5,), (0, 9, 4)):
            self.assertEqual(fewest_moves(Memory(places), Memory(places)), [])

    def test_from_rest(self):
        self.assertEqual(fewest_moves(Memory((0,)), Memory((0, 9, 4, 6))), [9, 4, 6])
        self.assertEqual(fewest_moves(Memory((0,)), Memory((-2, 9, 4))), [-2, 9, 4])

    def test_goes_on(self):
        self.assertEqual(fewest_moves(Memory((0, 9, 4)), Memory((0, 9, 4, 6, 5))), [6, 5])
        self.assertEqual(fewest_moves(Memory((0, 9, 4)), Memory((0, 9, 3))), [3])
        self.assertEqual(fewest_moves(Memory((0, 9, 4, 7)), Memory((0, 11, 6))), [11, 6])

    def test_goes_back(self):
        self.assertEqual(len(fewest_moves(Memory((0, 9, 4)), Memory((0, 9)))), 1)
        self.assertEqual(len(fewest_moves(Memory((0, 9, 4, 7)), Memory((0, 9)))), 1)
        self.assertEqual(len(fewest_moves(Memory((0, 9, 4)), Memory((0, 9, 5)))), 2)
        self.assertEqual(len(fewest_moves(Memory((0, 9, 4)), Memory((0, 8)))), 2)
        self.assertEqual(len(fewest_moves(Memory((0, 9, 4)), Memory((0,)))), 1)

    def test_cannot_be_reached(self):
        self.assertIsNone(fewest_moves(Memory((-1,)), Memory((0,))))
        self.assertIsNone(fewest_moves(Memory((-3, 9)), Memory((-2, 9))))
        self.assertIsNone(fewest_moves(Memory((-3, 9, 0)), Memory((0, 9))))

    def test_against_all_moves(self):
        low, high = -2, 3
        memories = all_memories(low, high)
        self.assertEqual(len(memories), 56)
        for places in memories:
            fewest = fewest_by_trying(places, low, high)
            for goal in memories:
                moves = fewest_moves(Memory(places), Memory(goal))
                with self.subTest(places=places, goal=goal):
                    if goal not in fewest:
                        self.assertIsNone(moves)
                    else:
                        self.assertEqual(len(moves), fewest[goal])
                        self.assertEqual(after(Memory(places), moves).places, goal)

    def test_moves_beyond_the_places_do_not_help(self):
        memories = all_memories(0, 4)
        for places in memories:
            fewest = fewest_by_trying(places, 0, 6)
            for goal in memories:
                self.assertEqual(len(fewest_moves(Memory(places), Memory(goal))), fewest[goal])

    def test_random_memories(self):
        chance = generator(33)
        for _ in range(300):
            memory = memory_of(random_row(chance, 6, -9, 20))
            goal = memory_of(random_row(chance, 6, -9, 20))
            moves = fewest_moves(memory, goal)
            with self.subTest(places=memory.places, goal=goal.places):
                if memory.places[0] < goal.places[0]:
                    self.assertIsNone(moves)
                else:
                    self.assertTrue(after(memory, moves) == goal)

    def test_many_places(self):
        places = tuple([k if k % 2 == 0 else 9000 - k for k in range(3000)])
        self.assertEqual(fewest_moves(Memory((0,)), Memory(places)), list(places[1:]))
        self.assertEqual(fewest_moves(Memory(places), Memory(places[:1500])), [places[1499]])

    def test_memories_are_not_changed_and_the_list_is_free(self):
        memory, goal = Memory((0, 9, 4)), Memory((0, 9, 5))
        fewest_moves(memory, goal).append(3)
        self.assertEqual([memory.places, goal.places, fewest_moves(memory, goal)], [(0, 9, 4), (0, 9, 5), [9, 5]])


def moves_by_trying(rig, memory, place, end, span):
    """As [11] says: all lists of at most three moves, the shortest first, then in list order."""
    for length in range(4):
        for moves in itertools.product(range(span[0], span[1] + 1), repeat=max(0, length - 1)):
            row = list(moves) + [place] * min(1, length)
            reached = after(memory, row)
            if reached.place == place and rig.at(reached) == end:
                return row
    return None


class MovesToTest(unittest.TestCase):
    def test_example(self):
        self.assertEqual(moves_to(rod(3), Memory((0,)), 2, 2, (0, 6)), [5, 2])

    def test_no_moves(self):
        self.assertEqual(moves_to(rod(3), Memory((0,)), 0, 0, (0, 0)), [])
        self.assertEqual(moves_to(rod(3), Memory((0, 9, 4)), 4, 4, (5, 6)), [])

    def test_at_the_place_with_another_end(self):
        self.assertEqual(moves_to(rod(3), Memory((0, 4)), 4, 4, (0, 9)), [7, 4])
        self.assertEqual(moves_to(rod(3), Memory((0, 9, 4)), 4, 1, (0, 9)), [0, 4])

    def test_one_move(self):
        self.assertEqual(moves_to(rod(3), Memory((0,)), 7, 4, (0, 9)), [7])
        self.assertEqual(moves_to(rod(3), Memory((0, 9)), 7, 6, (0, 0)), [7])

    def test_last_move_is_outside_the_range(self):
        self.assertEqual(moves_to(rod(3), Memory((0,)), 50, 47, (0, 0)), [50])
        self.assertEqual(moves_to(rod(3), Memory((0,)), 50, 48, (51, 60)), [51, 50])
        self.assertEqual(moves_to(rod(3), Memory((0,)), -5, -5, (0, 9)), [-5])
        self.assertIsNone(moves_to(rod(3), Memory((0,)), 50, 48, (0, 9)))

    def test_first_in_list_order(self):
        # All places from 5 on do as well.
        self.assertEqual(moves_to(rod(3), Memory((0,)), 2, 2, (3, 20)), [5, 2])
        self.assertEqual(moves_to(rod(3), Memory((0,)), 2, 2, (8, 20)), [8, 2])

    def test_three_moves(self):
        # The second rod must be taken down, and then the first one alone up again.
        rig, memory = rod(2) * 99 + rod(6), Memory((0, 20))
        self.assertEqual(rig.at(Memory((0, 7, 5))), 5 * 99 + 1)
        self.assertEqual(moves_to(rig, memory, 5, 5 * 99 + 1, (0, 9)), [0, 7, 5])
        self.assertEqual(moves_to(rig, memory, 5, 5 * 99 + 1, (1, 9)), [1, 7, 5])
        self.assertIsNone(moves_to(rig, memory, 5, 5 * 99 + 1, (2, 9)))

    def test_moves_to_where_the_handle_is(self):
        # The range has only the place where the handle is already.
        self.assertEqual(moves_to(rod(3), Memory((0, 9)), 2, 2, (9, 9)), [2])
        self.assertIsNone(moves_to(rod(3), Memory((0, 9)), 2, 1, (9, 9)))

    def test_none(self):
        self.assertIsNone(moves_to(rod(3), Memory((0,)), 2, 3, (-9, 9)))
        self.assertIsNone(moves_to(rod(3), Memory((-4,)), 0, 1, (-9, 9)))
        self.assertIsNone(moves_to(rod(1) * 0, Memory((0,)), 0, 5, (-20, 20)))

    def test_against_all_lists(self):
        chance = generator(34)
        found = {}
        for _ in range(400):
            rig, _ = random_chain(chance, chance.randint(1, 2))
            memory = memory_of(random_row(chance, 5, -4, 9))
            low = chance.randint(-4, 6)
            span = (low, low + chance.randint(0, 6))
            place = chance.randint(-5, 10)
            far = after(memory, random_row(chance, 3, low, span[1]) + [place])
            end = rig.at(far) + chance.choice((0, 0, 0, 1))
            expected = moves_by_trying(rig, memory, place, end, span)
            with self.subTest(arms=rig.arms, places=memory.places, place=place, end=end, span=span):
                self.assertEqual(moves_to(rig, memory, place, end, span), expected)
            length = None if expected is None else len(expected)
            found[length] = found.get(length, 0) + 1
        self.assertEqual(set(found), {None, 0, 1, 2, 3})

    def test_list_leads_there(self):
        chance = generator(35)
        for _ in range(60):
            rig, model = random_chain(chance, 2)
            memory = memory_of(random_row(chance, 5, -4, 9))
            place = chance.randint(-5, 10)
            end = rig.at(after(memory, [chance.randint(-4, 9), place]))
            moves = moves_to(rig, memory, place, end, (-4, 9))
            with self.subTest(arms=rig.arms, places=memory.places, moves=moves):
                self.assertEqual(naive.ends(model(), memory.row + moves + [place])[-1], end)

    def test_memory_of_many_places(self):
        places = tuple([k if k % 2 == 0 else 9000 - k for k in range(3000)])
        self.assertEqual(moves_to(rod(3), Memory(places), 9000, 8997, (5000, 5040)), [9000])


class ArgumentTest(unittest.TestCase):
    def test_widest_range(self):
        self.assertEqual(moves_to(rod(3), Memory((0,)), 2, 2, (-35, 5)), [5, 2])
        self.assertEqual(moves_to(rod(3), Memory((0,)), 2, 1, (-36, 4)), [4, 2])
        self.assertEqual(moves_to(rod(3), Memory((0,)), FAR, FAR - 3, (FAR - 40, FAR)), [FAR])
        self.assertEqual(moves_to(rod(3), Memory((0,)), 0, 3, (-FAR, 40 - FAR)), None)

    def test_invalid_ranges(self):
        spans = [(-36, 5), (0, 41), (5, 4), (0, -1), (FAR, FAR + 1), (-FAR - 1, -FAR), (FAR + 1, FAR + 1)]
        spans += [(), (1,), (1, 2, 3), [0, 6], (-FAR, FAR), 6, 0, ((0, 6),), "06"]
        for index, span in enumerate(spans):
            with self.subTest(index=index), self.assertRaises(InvalidRange):
                moves_to(rod(3), Memory((0,)), 2, 2, span)

    def test_wrong_kinds_of_ranges(self):
        for index, wrong in enumerate(WRONG_KINDS):
            for span in (wrong, (wrong, 1), (0, wrong)):
                with self.subTest(index=index), self.assertRaises(InvalidRange):
                    moves_to(rod(3), Memory((0,)), 2, 2, span)

    def test_invalid_places(self):
        for index, place in enumerate((FAR + 1, -FAR - 1, 10 ** 5000) + WRONG_KINDS):
            with self.subTest(index=index), self.assertRaises(InvalidPlace):
                moves_to(rod(3), Memory((0,)), place, 2, (0, 6))

    def test_place_comes_first(self):
        with self.assertRaises(InvalidPlace):
            moves_to(rod(3), Memory((0,)), None, 2, None)
        with self.assertRaises(InvalidPlace):
            moves_to(rod(3), Memory((0,)), FAR + 1, 2, (0, 41))

    def test_range_is_refused_where_no_move_is_needed(self):
        with self.assertRaises(InvalidRange):
            moves_to(rod(3), Memory((0,)), 0, 0, (1, 0))

    def test_list_is_free(self):
        memory = Memory((0,))
        moves_to(rod(3), memory, 0, 0, (0, 6)).append(1)
        moves_to(rod(3), memory, 2, 2, (0, 6)).append(1)
        self.assertEqual(moves_to(rod(3), memory, 0, 0, (0, 6)), [])
        self.assertEqual(moves_to(rod(3), memory, 2, 2, (0, 6)), [5, 2])
        self.assertEqual(memory.places, (0,))


if __name__ == "__main__":
    unittest.main()
