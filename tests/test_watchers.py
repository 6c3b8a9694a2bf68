"""Tests of [14] and [15]: watchers."""

import unittest

from slackrods.errors import Contradiction, InvalidCount, InvalidPlace, InvalidSlack, InvalidTimes
from slackrods.memories import Memory, memory_of
from slackrods.rigs import rod
from slackrods.watchers import Watcher, pair_watcher, rod_watcher
from tests import naive
from tests.samples import WRONG_KINDS, generator

FAR = 1000000
WRONG_PLACES = (-FAR - 1, FAR + 1, 10 ** 30) + WRONG_KINDS
NO_PAIRS = WRONG_KINDS + ((1, 1, 1), [1, 1], "12", (3,), 3, {})


def rod_parts(most, times):
    """The hidden rods of a rod watcher: by their candidates, the slacks and factors."""
    return {(slack, arm): [(slack, arm)] for slack in range(most + 1) for arm in range(1, times + 1)}


def pair_parts(most):
    """The hidden rigs of a pair watcher: by their candidates, the slacks and factors."""
    return {
        (slack, other): [(slack, 1), (other, 1)]
        for slack in range(most + 1) for other in range(most + 1) if slack <= other
    }


def walked(parts, row):
    """The ends of a hidden rig, walked step by step."""
    return naive.ends(naive.Sum(*[(naive.Rod(slack), times) for slack, times in parts]), row)


def agreeing(all_parts, seen):
    """The candidates that agree with pairs (place, end)."""
    row = [place for place, _ in seen]
    ends = [end for _, end in seen]
    return sorted(candidate for candidate, parts in all_parts.items() if walked(parts, row) == ends)


def ends_after(all_parts, candidates, row):
    """For each candidate its last end."""
    return [walked(all_parts[candidate], row)[-1] for candidate in candidates]


def telling_by_trying(all_parts, candidates, row, limit):
    """The place that [14] tells, by trying all of them."""
    worst = {}
    for place in range(limit + 1):
        ends = ends_after(all_parts, candidates, row + [place])
        worst[place] = max(ends.count(end) for end in ends)
    return min(worst, key=lambda place: (worst[place], place))


class WalkTest(unittest.TestCase):
    def check_walk(self, chance, watcher, all_parts, hidden):
        seen = []
        for _ in range(chance.randint(1, 6)):
            row = [place for place, _ in seen]
            candidates = agreeing(all_parts, seen)
            self.assertEqual(watcher.candidates, candidates)
            place = chance.randint(-9, 14)
            ends = ends_after(all_parts, candidates, row + [place])
            self.assertEqual(watcher.possible_ends(place), sorted(set(ends)))
            limit = chance.randint(0, 9)
            self.assertEqual(watcher.telling_move(limit), telling_by_trying(all_parts, candidates, row, limit))
            # What was only asked for is not seen.
            self.assertEqual(watcher.memory.places, memory_of(row).places)
            end = walked(all_parts[hidden], row + [place])[-1]
            seen.append((place, end))
            self.assertEqual(watcher.see(place, end), ends.count(end))
            self.assertEqual(watcher.history, seen)
            self.assertTrue(watcher.memory == memory_of(row + [place]))

    def test_rods(self):
        chance = generator(44)
        for _ in range(60):
            most, times = chance.randint(0, 9), chance.randint(1, 5)
            all_parts = rod_parts(most, times)
            hidden = chance.choice(sorted(all_parts))
            with self.subTest(most=most, times=times, hidden=hidden):
                self.check_walk(chance, rod_watcher(most, times), all_parts, hidden)

    def test_pairs(self):
        chance = generator(45)
        for _ in range(60):
            most = chance.randint(0, 8)
            all_parts = pair_parts(most)
            hidden = chance.choice(sorted(all_parts))
            with self.subTest(most=most, hidden=hidden):
                self.check_walk(chance, pair_watcher(most), all_parts, hidden)

    def test_see_all(self):
        chance = generator(46)
        for _ in range(60):
            all_parts = rod_parts(9, 4)
            row = [chance.randint(-9, 14) for _ in range(chance.randint(1, 6))]
            seen = list(zip(row, walked(all_parts[chance.choice(sorted(all_parts))], row)))
            watcher = rod_watcher(9, 4)
            cut = chance.randint(0, len(seen))
            with self.subTest(seen=seen, cut=cut):
                self.assertEqual(watcher.see_all(*seen[:cut]), len(agreeing(all_parts, seen[:cut])))
                self.assertEqual(watcher.see_all(*seen[cut:]), len(agreeing(all_parts, seen)))
                self.assertEqual([watcher.candidates, watcher.history], [agreeing(all_parts, seen), seen])
                self.assertTrue(watcher.memory == memory_of(row))

    def test_any_end_at_random(self):
        chance = generator(47)
        contradictions = 0
        for turn in range(300):
            all_parts = pair_parts(3)
            watcher = pair_watcher(3)
            seen = [(chance.randint(-2, 4), chance.randint(-2, 4)) for _ in range(1 + turn % 2)]
            remaining = agreeing(all_parts, seen)
            with self.subTest(seen=seen):
                if remaining:
                    self.assertEqual(watcher.see_all(*seen), len(remaining))
                else:
                    contradictions += 1
                    self.assertRaises(Contradiction, watcher.see_all, *seen)
        self.assertTrue(100 < contradictions < 290, contradictions)


class WatcherTest(unittest.TestCase):
    def test_example(self):
        watcher = rod_watcher(3, 2)
        found = [watcher.see(3, 2), watcher.candidates, watcher.possible_ends(4), watcher.telling_move(9)]
        self.assertEqual(found, [2, [(1, 1), (2, 2)], [3, 4], 1])

    def test_at_first(self):
        for watcher, candidates in (
            (rod_watcher(1, 2), [(0, 1), (0, 2), (1, 1), (1, 2)]),
            (pair_watcher(2), [(0, 0), (0, 1), (0, 2), (1, 1), (1, 2), (2, 2)]),
            (rod_watcher(0, 1), [(0, 1)]),
            (pair_watcher(0), [(0, 0)]),
        ):
            self.assertIsInstance(watcher, Watcher)
            self.assertEqual([watcher.candidates, watcher.history], [candidates, []])
            self.assertTrue(watcher.memory == Memory((0,)))

    def test_greatest_watchers(self):
        self.assertEqual(len(rod_watcher(30, 9).candidates), 31 * 9)
        self.assertEqual(rod_watcher(30, 9).candidates[-1], (30, 9))
        self.assertEqual(len(pair_watcher(20).candidates), 231)
        self.assertEqual(pair_watcher(20).candidates[-1], (20, 20))

    def test_pair_of_like_slacks(self):
        watcher = pair_watcher(2)
        self.assertEqual([watcher.see(2, 2), watcher.candidates], [2, [(0, 2), (1, 1)]])
        self.assertEqual([watcher.see(1, 2), watcher.candidates], [1, [(1, 1)]])

    def test_below_rest(self):
        watcher = rod_watcher(4, 3)
        self.assertEqual([watcher.see(-2, -4), watcher.candidates], [5, [(slack, 2) for slack in range(5)]])
        self.assertEqual([watcher.see(1, 0), watcher.candidates], [1, [(1, 2)]])

    def test_far_places(self):
        watcher = rod_watcher(30, 9)
        self.assertEqual(watcher.see(FAR, 5 * (FAR - 7)), 1)
        self.assertEqual(watcher.see(-FAR, -5 * FAR), 1)
        self.assertEqual([watcher.candidates, watcher.memory.places], [[(7, 5)], (-FAR,)])

    def test_move_to_where_the_handle_is(self):
        watcher = rod_watcher(3, 1)
        self.assertEqual([watcher.see(0, 0), watcher.see(2, 1), watcher.see(2, 1)], [4, 1, 1])
        self.assertEqual(watcher.history, [(0, 0), (2, 1), (2, 1)])

    def test_lists_are_free(self):
        watcher = rod_watcher(3, 2)
        watcher.see(3, 2)
        watcher.candidates.clear()
        watcher.history.append((1, 1))
        watcher.possible_ends(4).clear()
        self.assertEqual([watcher.candidates, watcher.history], [[(1, 1), (2, 2)], [(3, 2)]])
        self.assertEqual([watcher.possible_ends(4), watcher.see(4, 4)], [[3, 4], 1])

    def test_watchers_are_apart(self):
        one, other = rod_watcher(3, 2), rod_watcher(3, 2)
        one.see(3, 2)
        self.assertEqual([len(other.candidates), other.history, other.memory.places], [8, [], (0,)])

    def test_agrees_with_rigs(self):
        watcher = pair_watcher(9)
        rig = rod(2) + rod(7)
        for place in (9, 3, 6, -1, 5):
            watcher.see(place, rig.at(watcher.memory(place)))
        self.assertIn((2, 7), watcher.candidates)


class RefusedTest(unittest.TestCase):
    def assert_as_before(self, watcher):
        self.assertEqual([watcher.candidates, watcher.history], [[(1, 1), (2, 2)], [(3, 2)]])
        self.assertEqual(watcher.memory.places, (0, 3))
        self.assertEqual([watcher.possible_ends(4), watcher.telling_move(9)], [[3, 4], 1])

    def started(self):
        watcher = rod_watcher(3, 2)
        watcher.see(3, 2)
        return watcher

    def test_contradictions(self):
        watcher = self.started()
        for end in (5, 2, -1, 10 ** 40) + WRONG_KINDS:
            with self.subTest(end=end):
                self.assertRaises(Contradiction, watcher.see, 4, end)
                self.assertRaises(Contradiction, watcher.see_all, (4, end))
                self.assertRaises(Contradiction, watcher.see_all, (4, 3), (4, end))
                self.assert_as_before(watcher)

    def test_end_that_only_looks_right(self):
        # True is 1 and False is 0 to Python, but no number.
        for end in (True, 1.0):
            self.assertRaises(Contradiction, rod_watcher(0, 1).see, 1, end)
        self.assertRaises(Contradiction, rod_watcher(0, 1).see, 0, False)

    def test_wrong_places(self):
        watcher = self.started()
        for place in WRONG_PLACES:
            with self.subTest(place=place):
                self.assertRaises(InvalidPlace, watcher.see, place, 3)
                self.assertRaises(InvalidPlace, watcher.see_all, (place, 3))
                self.assertRaises(InvalidPlace, watcher.see_all, (4, 3), (place, 3))
                self.assertRaises(InvalidPlace, watcher.possible_ends, place)
                self.assert_as_before(watcher)

    def test_place_comes_before_end(self):
        watcher = self.started()
        for place in WRONG_PLACES:
            for end in (99, None, True):
                self.assertRaises(InvalidPlace, watcher.see, place, end)
                self.assertRaises(InvalidPlace, watcher.see_all, (place, end))
        self.assert_as_before(watcher)

    def test_no_pairs(self):
        watcher = self.started()
        for pair in NO_PAIRS:
            with self.subTest(pair=pair):
                self.assertRaises(InvalidPlace, watcher.see_all, pair)
                self.assertRaises(InvalidPlace, watcher.see_all, (4, 3), (5, 4), pair)
                self.assert_as_before(watcher)

    def test_pairs_one_after_another(self):
        watcher = self.started()
        self.assertRaises(Contradiction, watcher.see_all, (4, 99), None)
        self.assertRaises(InvalidPlace, watcher.see_all, None, (4, 99))
        self.assertRaises(InvalidPlace, watcher.see_all, (4, 3), [5, 4], (4, 99))
        self.assert_as_before(watcher)

    def test_see_all_of_none(self):
        watcher = self.started()
        self.assertEqual([watcher.see_all(), rod_watcher(3, 2).see_all(), pair_watcher(2).see_all()], [2, 8, 6])
        self.assert_as_before(watcher)

    def test_limits_of_telling_move(self):
        watcher = self.started()
        self.assertEqual([watcher.telling_move(0), watcher.telling_move(100)], [0, 1])
        for limit in (-1, 101, 10 ** 30) + WRONG_KINDS:
            with self.subTest(limit=limit):
                self.assertRaises(InvalidCount, watcher.telling_move, limit)
        self.assert_as_before(watcher)

    def test_far_limit(self):
        parts = pair_parts(20)
        self.assertEqual(pair_watcher(20).telling_move(100), telling_by_trying(parts, sorted(parts), [], 100))
        parts = rod_parts(30, 9)
        self.assertEqual(rod_watcher(30, 9).telling_move(100), telling_by_trying(parts, sorted(parts), [], 100))

    def test_slacks_and_arms(self):
        for most in (-1, 31, 10 ** 30) + WRONG_KINDS:
            with self.subTest(most=most):
                self.assertRaises(InvalidSlack, rod_watcher, most, 1)
                # The first argument is checked first.
                self.assertRaises(InvalidSlack, rod_watcher, most, 0)
                self.assertRaises(InvalidSlack, rod_watcher, most, None)
        for times in (-1, 0, 10, 10 ** 30) + WRONG_KINDS:
            with self.subTest(times=times):
                self.assertRaises(InvalidTimes, rod_watcher, 0, times)
                self.assertRaises(InvalidTimes, rod_watcher, 30, times)
        for most in (-1, 21, 30, 10 ** 30) + WRONG_KINDS:
            with self.subTest(most=most):
                self.assertRaises(InvalidSlack, pair_watcher, most)


if __name__ == "__main__":
    unittest.main()
