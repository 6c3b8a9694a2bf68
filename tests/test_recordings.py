"""Tests of [20]: recordings."""

import unittest

from slackrods.errors import InvalidRecording, InvalidRow
from slackrods.memories import Memory
from slackrods.recordings import explained, first_wrong, recorded, shortened
from slackrods.rigs import rod
from tests import naive
from tests.samples import WRONG_KINDS, WRONG_ROWS, generator, random_chain, random_row

FAR = 1000000
WRONG_PAIRS = (
    [1, 1], (1,), (), (1, 1, 1), (True, 1), (1, True), (None, 1), (1, None), ("1", 1), (1, "1"), (FAR + 1, 1),
    (-FAR - 1, 1), (1.0, 1), (1, 1.0), ((1, 1), 1), (1, (1,)), None, True, 5, "11", "",
)


def walked(model, row):
    """The recording of a fresh model, walked step by step."""
    return list(zip(row, naive.ends(model(), row)))


def shortened_by_words(recording):
    """As [20] says: the memory after each pair, compared with each beginning of the last one."""
    row = [place for place, _ in recording]
    memories = [naive.memory_places(row[:length + 1]) for length in range(len(row))]
    last = memories[-1] if memories else (0,)
    beginnings = [last[:length] for length in range(1, len(last) + 1) if last[:length] != (0,)]
    return [recording[max(at for at, places in enumerate(memories) if places == beginning)]
            for beginning in beginnings]


class RecordingTest(unittest.TestCase):
    def test_example(self):
        self.assertEqual(recorded(rod(1), [3, 1, 2]), [(3, 2), (1, 1), (2, 1)])
        self.assertEqual(shortened(recorded(rod(1), [3, 1, 3, 2])), [(3, 2), (2, 2)])

    def test_recorded(self):
        chance = generator(64)
        for _ in range(100):
            rig, model = random_chain(chance, chance.randint(1, 3))
            row = random_row(chance, chance.randint(0, 9), -6, 12)
            with self.subTest(arms=rig.arms, row=row):
                self.assertEqual(recorded(rig, row), walked(model, row))
        self.assertEqual(recorded(rod(1), []), [])
        self.assertEqual(len(recorded(rod(1), [5] * 1000)), 1000)

    def test_recorded_with_wrong_rows(self):
        for row, index in WRONG_ROWS:
            with self.subTest(row=row):
                with self.assertRaises(InvalidRow) as caught:
                    recorded(rod(1), row)
                self.assertEqual(caught.exception.index, index)

    def test_first_wrong(self):
        chance = generator(65)
        for _ in range(150):
            rig, model = random_chain(chance, chance.randint(1, 3))
            recording = walked(model, random_row(chance, chance.randint(1, 9), -6, 12))
            with self.subTest(arms=rig.arms, recording=recording):
                self.assertIsNone(first_wrong(rig, recording))
                wrong = sorted(chance.sample(range(len(recording)), chance.randint(1, len(recording))))
                for at in wrong:
                    place, end = recording[at]
                    recording[at] = (place, end + chance.choice((-1, 1, 50)))
                self.assertEqual(first_wrong(rig, recording), wrong[0])

    def test_explained(self):
        chance = generator(66)
        several = 0
        for _ in range(100):
            pairs = [random_chain(chance, chance.randint(1, 2)) for _ in range(chance.randint(1, 6))]
            pairs = pairs + [chance.choice(pairs)]
            recording = walked(chance.choice(pairs)[1], random_row(chance, chance.randint(1, 4), -3, 5))
            row = [place for place, _ in recording]
            expected = [index for index, (_, model) in enumerate(pairs) if walked(model, row) == recording]
            with self.subTest(recording=recording):
                found = explained([rig for rig, _ in pairs], recording)
                self.assertEqual(found, expected)
                several += len(found) > 1
        self.assertGreater(several, 30)

    def test_explained_by_none(self):
        self.assertEqual(explained([rod(1), rod(2)], [(1, 9)]), [])
        self.assertEqual(explained([], [(1, 1)]), [])
        self.assertEqual(explained([rod(1), rod(0), rod(2)], [(4, 4)]), [1])

    def test_recording_of_no_pair(self):
        self.assertIsNone(first_wrong(rod(1), []))
        self.assertEqual([explained([rod(1), rod(2)], []), shortened([])], [[0, 1], []])

    def test_long_recordings(self):
        chance = generator(67)
        rig = rod(3) * 2 - rod(7)
        row = random_row(chance, 5000, -FAR, FAR)
        recording = []
        memory = Memory((0,))
        for place in row:
            memory = memory(place)
            recording.append((place, rig.at(memory)))
        self.assertEqual(recording[:1000], recorded(rig, row[:1000]))
        self.assertIsNone(first_wrong(rig, recording))
        self.assertEqual(explained([rod(3), rig], recording), [1])
        recording[4321] = (recording[4321][0], recording[4321][1] + 1)
        self.assertEqual([first_wrong(rig, recording), explained([rod(3), rig], recording)], [4321, []])

    def test_ends_can_be_far(self):
        self.assertEqual(first_wrong(rod(1), [(3, 10 ** 40)]), 0)
        rig = rod(0) * 99 * 99
        self.assertIsNone(first_wrong(rig, [(FAR, 9801 * FAR), (-FAR, -9801 * FAR)]))

    def test_lists_are_not_changed_and_are_free(self):
        recording = [(3, 2), (1, 1), (3, 2), (2, 2)]
        rigs = [rod(1), rod(2)]
        shortened(recording).clear()
        explained(rigs, recording).clear()
        recorded(rod(1), [3, 1]).clear()
        self.assertIsNone(first_wrong(rod(1), recording))
        self.assertEqual([recording, len(rigs)], [[(3, 2), (1, 1), (3, 2), (2, 2)], 2])
        self.assertEqual([shortened(recording), explained(rigs, recording)], [[(3, 2), (2, 2)], [0]])


class ShortenedTest(unittest.TestCase):
    def check(self, recording):
        with self.subTest(recording=recording):
            found = shortened(recording)
            self.assertEqual(found, shortened_by_words(recording))
            row = [place for place, _ in recording]
            self.assertEqual(naive.memory_places([place for place, _ in found]), naive.memory_places(row))

    def numbered(self, row):
        """Pairs with ends that tell at which index they stood."""
        return [(place, 100 + index) for index, place in enumerate(row)]

    def test_row_in_which_all_matters(self):
        recording = self.numbered([-2, 9, 0, 5, 3])
        self.assertEqual(shortened(recording), recording)

    def test_moves_to_where_the_handle_is(self):
        self.assertEqual(shortened(self.numbered([4, 4, 4])), [(4, 102)])
        self.assertEqual(shortened(self.numbered([9, 4, 4])), [(9, 100), (4, 102)])
        self.assertEqual(shortened(self.numbered([-3, -3])), [(-3, 101)])

    def test_back_to_rest(self):
        self.assertEqual(shortened(self.numbered([0])), [])
        self.assertEqual(shortened(self.numbered([5, 0])), [])
        self.assertEqual(shortened(self.numbered([5, 0, 0, 3])), [(3, 103)])
        self.assertEqual(shortened(self.numbered([5, 0, 5])), [(5, 102)])

    def test_new_lowest_places(self):
        self.assertEqual(shortened(self.numbered([5, 2, -1])), [(-1, 102)])
        self.assertEqual(shortened(self.numbered([-1, 5, -1])), [(-1, 102)])
        self.assertEqual(shortened(self.numbered([-1, 5, -4, 0])), [(-4, 102), (0, 103)])
        self.assertEqual(shortened(self.numbered([-1, 0])), [(-1, 100), (0, 101)])

    def test_last_pair_with_the_same_memory(self):
        self.assertEqual(shortened(self.numbered([9, 4, 6, 4, 5])), [(9, 100), (4, 103), (5, 104)])
        self.assertEqual(shortened(self.numbered([3, 1, 3, 2])), [(3, 102), (2, 103)])

    def test_way_that_goes_on(self):
        self.assertEqual(shortened(self.numbered([3, 5, 9, 7, 6])), [(9, 102), (6, 104)])

    def test_against_the_words(self):
        chance = generator(68)
        for low, high in ((-3, 5), (0, 6), (-9, 9), (-6, 0), (-1, 2)):
            for _ in range(100):
                self.check(self.numbered(random_row(chance, chance.randint(1, 14), low, high)))

    def test_whatever_the_ends_are(self):
        self.assertEqual(shortened([(3, 999), (1, -999), (2, 10 ** 40)]), [(3, 999), (1, -999), (2, 10 ** 40)])

    def test_many_pairs(self):
        self.assertEqual(shortened([(turn % 10, turn) for turn in range(20000)]), [(9, 19999)])


class WrongRecordingTest(unittest.TestCase):
    def assert_wrong(self, recording, index):
        for use in (lambda: first_wrong(rod(1), recording), lambda: explained([rod(1)], recording),
                    lambda: explained([], recording), lambda: shortened(recording)):
            with self.subTest(recording=recording):
                with self.assertRaises(InvalidRecording) as caught:
                    use()
                self.assertEqual(caught.exception.index, index)

    def test_wrong_pairs(self):
        for pair in WRONG_PAIRS:
            self.assert_wrong([pair], 0)
            # Wrong ends ahead of it do not matter.
            self.assert_wrong([(3, 2), (1, 77), pair, None, (1, 1)], 2)
        self.assert_wrong([(3, 2)] * 1500 + [None], 1500)

    def test_what_is_no_list(self):
        for wrong in WRONG_KINDS + (5, ((3, 2),), (3, 2), "32"):
            if not isinstance(wrong, list):
                self.assert_wrong(wrong, 0)


if __name__ == "__main__":
    unittest.main()
