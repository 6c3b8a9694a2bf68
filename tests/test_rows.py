"""Tests of rows in [3], [6], [7], [8], [9], [20] and [21]: refused ones, and that none is changed or kept."""

import unittest

from slackrods.errors import InvalidRow
from slackrods.loops import loops, travel
from slackrods.memories import memory_of
from slackrods.panels import Panel
from slackrods.recordings import recorded
from slackrods.repeated import Repeated
from slackrods.rigs import rod
from tests.samples import WRONG_ROWS

RIG = rod(0) * 2 - rod(3)
PANEL = Panel({"b": RIG, "a": rod(1)})

# All that takes a row, each with a form of its answer that can be compared.
USES = {
    "rig": lambda row: RIG(row),
    "rig without arms": lambda row: (rod(1) - rod(1))(row),
    "memory_of": lambda row: memory_of(row).places,
    "loops": lambda row: loops(row),
    "travel": lambda row: travel(RIG, row),
    "travel without arms": lambda row: travel(rod(1) - rod(1), row),
    "Repeated": lambda row: Repeated(RIG, row).ends,
    "recorded": lambda row: recorded(RIG, row),
    "panel": lambda row: PANEL(row),
    "first_change": lambda row: PANEL.first_change(row),
}


class RowTest(unittest.TestCase):
    def test_refused_rows(self):
        for name, use in USES.items():
            for row, index in WRONG_ROWS:
                with self.subTest(use=name, row=row):
                    with self.assertRaises(InvalidRow) as caught:
                        use(row)
                    self.assertEqual(caught.exception.index, index)

    def test_longest_rows_and_farthest_places(self):
        for name, use in USES.items():
            with self.subTest(use=name):
                use([1000000, -1000000] * 500)

    def test_no_moves(self):
        for name, use in USES.items():
            with self.subTest(use=name):
                if name != "Repeated":
                    use([])
                else:
                    with self.assertRaises(InvalidRow) as caught:
                        use([])
                    self.assertEqual(caught.exception.index, 0)

    def test_rows_are_not_changed_and_answers_stay(self):
        for name, use in USES.items():
            row = [9, 4, 6, 4, -2, 5]
            with self.subTest(use=name):
                first = use(row)
                self.assertEqual(row, [9, 4, 6, 4, -2, 5])
                self.assertEqual(use(row), first)

    def test_row_is_not_kept(self):
        row = [4, 1]
        repeated = Repeated(rod(1), row)
        row.append(9)
        self.assertEqual([repeated.ends, repeated(5), repeated.loops_after(3)], [[3, 1], 1, {3: 2}])


if __name__ == "__main__":
    unittest.main()
