"""Tests of [21]: panels."""

import unittest

from slackrods.errors import InvalidName, InvalidPanel, InvalidRow, NotForward, TooGreat, UnknownName, UnlikeRigs
from slackrods.memories import Memory, memory_of
from slackrods.panels import Panel
from slackrods.rigs import rod
from tests import naive
from tests.samples import WRONG_KINDS, WRONG_ROWS, generator, random_chain, random_row

NO_NAMES = ("", "A", "a1", "a b", "abcdefghi", "a_b", "\u00e4", "a\n", None, True, False, 0, 1, (), ("a",))
UNKNOWN = NO_NAMES + ("b", "aa", [], ["a"], ["a", "b"])


def plain(panel):
    """The arms of a panel's rigs by their names."""
    return {name: panel[name].arms for name in panel.names}


def random_panel(chance, names):
    """A panel, and the models of its rigs by their names."""
    pairs = {name: random_chain(chance, chance.randint(1, 2)) for name in names}
    return Panel({name: rig for name, (rig, _) in pairs.items()}), {name: model for name, (_, model) in pairs.items()}


def random_names(chance):
    return chance.sample(["a", "b", "ab", "ba", "z", "abcdefgh", "left", "right", "up"], chance.randint(1, 9))


def ranked(ends):
    """The names with ends, the greatest end first, of equal ones in ascending order."""
    return sorted(ends, key=lambda name: (-ends[name], name))


def many(count):
    return {letter: rod(0) for letter in "abcdefghijklmnop"[:count]}


class PanelTest(unittest.TestCase):
    def test_example(self):
        panel = Panel({"a": rod(1), "b": rod(0) - rod(2)})
        found = [panel([3]), panel.ranking(memory_of([1])), panel.first_change([3, 0, 1])]
        self.assertEqual(found, [{"a": [2], "b": [2]}, ["b", "a"], 2])

    def test_names(self):
        panel = Panel({"right": rod(1), "up": rod(2), "left": rod(3), "abcdefgh": rod(4)})
        self.assertEqual([panel.names, len(panel)], [["abcdefgh", "left", "right", "up"], 4])
        self.assertEqual(plain(panel)["up"], ((2, 1),))

    def test_limits(self):
        for count in range(1, 10):
            self.assertEqual(len(Panel(many(count))), count)
        for count in (0, 10, 11, 16):
            self.assertRaises(InvalidPanel, Panel, many(count))

    def test_wrong_names(self):
        for name in NO_NAMES:
            with self.subTest(name=name):
                self.assertRaises(InvalidName, Panel, {name: rod(1)})
                self.assertRaises(InvalidName, Panel, {"a": rod(1), name: rod(1), "b": rod(2)})
                # The names come before their number, and before the rigs.
                self.assertRaises(InvalidName, Panel, {**many(10), name: rod(1)})
                self.assertRaises(InvalidName, Panel, {name: rod(1), **many(16)})
                self.assertRaises(InvalidName, Panel, {"a": None, name: rod(1)})

    def test_what_is_no_dict(self):
        for wrong in WRONG_KINDS + (["a"], ("a",), "a", [("a", rod(1))]):
            with self.subTest(wrong=wrong):
                self.assertRaises(InvalidPanel, Panel, wrong)

    def test_what_is_no_rig(self):
        for wrong in WRONG_KINDS:
            self.assertRaises(InvalidPanel, Panel, {"a": rod(1), "b": wrong})

    def test_dict_is_not_kept(self):
        rigs = {"b": rod(1), "a": rod(2)}
        panel = Panel(rigs)
        self.assertEqual(list(rigs), ["b", "a"])
        rigs["c"] = rod(3)
        rigs["a"] = rod(9)
        self.assertEqual(plain(panel), {"a": ((2, 1),), "b": ((1, 1),)})

    def test_name_in_panel(self):
        panel = Panel({"a": rod(1), "abcdefgh": rod(2)})
        self.assertEqual(["a" in panel, "abcdefgh" in panel], [True, True])
        for name in UNKNOWN:
            with self.subTest(name=name):
                self.assertIs(name in panel, False)
                self.assertIs(name not in panel, True)

    def test_rig_by_name(self):
        panel = Panel({"a": rod(1), "c": rod(2)})
        self.assertTrue(panel["c"] == rod(2))
        for name in UNKNOWN:
            with self.subTest(name=name):
                with self.assertRaises(UnknownName):
                    panel[name]

    def test_not_iterated(self):
        panel = Panel({"a": rod(1)})
        for use in (iter, list, tuple, sorted, set, dict, enumerate, lambda whole: [*whole]):
            with self.assertRaises(TypeError):
                use(panel)
        with self.assertRaises(TypeError):
            for _ in panel:
                pass

    def test_equality(self):
        one = Panel({"a": rod(1), "b": rod(2) >> rod(3)})
        self.assertTrue(one == Panel({"b": rod(5), "a": rod(1)}))
        self.assertFalse(one != Panel({"b": rod(5), "a": rod(1)}))
        for other in (Panel({"a": rod(1)}), Panel({"a": rod(1), "c": rod(5)}), Panel({"a": rod(1), "b": rod(4)}),
                      Panel({"a": rod(5), "b": rod(1)}), Panel({"a": rod(1), "b": rod(5), "c": rod(5)})):
            self.assertFalse(one == other)
            self.assertTrue(one != other)
        for other in WRONG_KINDS + ({"a": rod(1), "b": rod(5)}, rod(1), [rod(1), rod(5)]):
            self.assertFalse(one == other)
            self.assertTrue(one != other)

    def test_lists_and_dicts_are_free(self):
        panel = Panel({"b": rod(1), "a": rod(1)})
        panel.names.clear()
        panel([3])["a"].clear()
        panel([3]).clear()
        panel.ends_at(Memory((0, 3))).clear()
        panel.ranking(Memory((0, 3))).clear()
        panel.alike()[0].clear()
        panel.alike().clear()
        self.assertEqual([panel.names, panel([3]), panel.ends_at(Memory((0, 3)))],
                         [["a", "b"], {"a": [2], "b": [2]}, {"a": 2, "b": 2}])
        self.assertEqual([panel.ranking(Memory((0, 3))), panel.alike()], [["a", "b"], [["a", "b"]]])


class OperatorTest(unittest.TestCase):
    def test_both(self):
        one = Panel({"c": rod(1), "a": rod(2)})
        other = Panel({"b": rod(3), "a": rod(2)})
        both = one | other
        self.assertIsInstance(both, Panel)
        self.assertEqual([both.names, plain(both)],
                         [["a", "b", "c"], {"a": ((2, 1),), "b": ((3, 1),), "c": ((1, 1),)}])
        self.assertEqual([one.names, other.names], [["a", "c"], ["a", "b"]])
        self.assertTrue((one | one) == one)

    def test_unlike_rigs(self):
        one = Panel({"a": rod(1), "b": rod(5)})
        self.assertTrue((one | Panel({"b": rod(2) >> rod(3)})) == one)
        for other in ({"b": rod(4)}, {"c": rod(5), "a": rod(2)}, {"a": rod(1), "b": rod(6)}, {"a": rod(5)}):
            with self.assertRaises(UnlikeRigs):
                one | Panel(other)
            with self.assertRaises(UnlikeRigs):
                Panel(other) | one

    def test_too_many(self):
        self.assertEqual(len(Panel(many(5)) | Panel({"w": rod(1), "x": rod(1), "y": rod(1), "z": rod(1)})), 9)
        self.assertEqual(len(Panel(many(9)) | Panel(many(9))), 9)
        with self.assertRaises(InvalidPanel):
            Panel(many(9)) | Panel({"z": rod(1)})
        with self.assertRaises(InvalidPanel):
            Panel(many(6)) | Panel({"a": rod(0), "w": rod(1), "x": rod(1), "y": rod(1), "z": rod(1)})
        # Unlike rigs come first.
        with self.assertRaises(UnlikeRigs):
            Panel(many(9)) | Panel({"z": rod(1), "a": rod(1)})

    def test_what_is_no_panel(self):
        for wrong in WRONG_KINDS:
            with self.assertRaises(InvalidPanel):
                Panel({"a": rod(1)}) | wrong

    def test_all_but_one(self):
        panel = Panel({"a": rod(1), "b": rod(2), "c": rod(3)})
        self.assertEqual(plain(panel - "b"), {"a": ((1, 1),), "c": ((3, 1),)})
        self.assertEqual([(panel - "a" - "c").names, panel.names], [["b"], ["a", "b", "c"]])
        self.assertIsInstance(panel - "a", Panel)

    def test_the_last_one(self):
        panel = Panel({"a": rod(1)})
        with self.assertRaises(InvalidPanel):
            panel - "a"
        for name in UNKNOWN:
            with self.subTest(name=name):
                with self.assertRaises(UnknownName):
                    panel - name
        with self.assertRaises(UnknownName):
            Panel(many(3)) - "d"
        self.assertEqual(panel.names, ["a"])

    def test_driving(self):
        panel = Panel({"b": rod(1) * 2, "a": rod(2)})
        driven = panel >> (rod(3) - rod(4))
        self.assertIsInstance(driven, Panel)
        self.assertEqual(driven.names, ["a", "b"])
        self.assertTrue(driven["a"] == rod(2) >> (rod(3) - rod(4)))
        self.assertTrue(driven["b"] == (rod(1) * 2) >> (rod(3) - rod(4)))
        self.assertEqual(plain(panel), {"a": ((2, 1),), "b": ((1, 2),)})

    def test_first_exception_of_driving(self):
        great = rod(0) * 99 * 99 * 99
        backward = -rod(1)
        for rigs, error in (
            ({"a": rod(1), "b": backward}, NotForward), ({"b": rod(1), "a": backward}, NotForward),
            ({"a": great, "b": backward}, TooGreat), ({"b": great, "a": backward}, NotForward),
            ({"b": backward, "a": great}, TooGreat), ({"a": backward, "b": great}, NotForward),
        ):
            panel = Panel(rigs)
            with self.assertRaises(error):
                panel >> rod(0) * 2
            self.assertEqual(sorted(rigs), panel.names)


class EndsTest(unittest.TestCase):
    def test_row(self):
        chance = generator(69)
        for _ in range(60):
            panel, models = random_panel(chance, random_names(chance))
            row = random_row(chance, chance.randint(0, 6), -6, 12)
            found = panel(row)
            self.assertEqual(found, {name: naive.ends(models[name](), row) for name in models})
            self.assertEqual(list(found), sorted(models))

    def test_ends_at_and_ranking(self):
        chance = generator(70)
        for _ in range(100):
            panel, models = random_panel(chance, random_names(chance))
            row = random_row(chance, chance.randint(0, 6), -6, 12)
            ends = {name: ([0] + naive.ends(models[name](), row))[-1] for name in models}
            found = panel.ends_at(memory_of(row))
            self.assertEqual(found, ends)
            self.assertEqual(list(found), sorted(models))
            self.assertEqual(panel.ranking(memory_of(row)), ranked(ends))

    def test_equal_ends(self):
        panel = Panel({"d": rod(1), "b": rod(1), "c": rod(0), "a": rod(1), "e": rod(2)})
        self.assertEqual(panel.ranking(Memory((0, 5))), ["c", "a", "b", "d", "e"])
        self.assertEqual(panel.ranking(Memory((0,))), ["a", "b", "c", "d", "e"])
        self.assertEqual(panel.ranking(Memory((-3,))), ["a", "b", "c", "d", "e"])
        self.assertEqual(panel.ends_at(Memory((0, 5))), {"a": 4, "b": 4, "c": 5, "d": 4, "e": 3})

    def test_first_change(self):
        chance = generator(71)
        found = {}
        for _ in range(300):
            panel, models = random_panel(chance, random_names(chance))
            row = random_row(chance, chance.randint(0, 8), -3, 6)
            ends = {name: [0] + naive.ends(models[name](), row) for name in models}
            rankings = [ranked({name: ends[name][at] for name in models}) for at in range(len(row) + 1)]
            changes = [at for at in range(len(row)) if rankings[at + 1] != rankings[at]]
            with self.subTest(row=row):
                self.assertEqual(panel.first_change(row), changes[0] if changes else None)
            found[panel.first_change(row)] = True
        self.assertLessEqual({None, 0, 1, 2, 3}, set(found))

    def test_no_change(self):
        self.assertIsNone(Panel({"a": rod(0), "b": rod(1)}).first_change([5, 3, -1, 9]))
        self.assertIsNone(Panel({"a": rod(9)}).first_change([5, 3, -1, 9]))
        self.assertIsNone(Panel({"a": rod(1), "b": rod(0)}).first_change([]))
        self.assertEqual(Panel({"a": rod(1), "b": rod(0)}).first_change([0, 0, 1]), 2)
        self.assertEqual(Panel({"a": rod(1), "b": rod(0)}).first_change([9]), 0)

    def test_wrong_rows(self):
        panel = Panel({"a": rod(1), "b": rod(2)})
        for row, index in WRONG_ROWS:
            with self.subTest(row=row):
                for use in (panel, panel.first_change):
                    with self.assertRaises(InvalidRow) as caught:
                        use(row)
                    self.assertEqual(caught.exception.index, index)

    def test_alike(self):
        panel = Panel({
            "f": rod(1), "a": rod(5), "e": rod(2) >> rod(3), "b": rod(1), "d": rod(1) + rod(0), "c": rod(0) + rod(1),
            "g": rod(1), "h": rod(0) - rod(0),
        })
        self.assertEqual(panel.alike(), [["a", "e"], ["b", "f", "g"], ["c", "d"], ["h"]])
        self.assertEqual(Panel({"a": rod(1)}).alike(), [["a"]])
        self.assertEqual(Panel(many(9)).alike(), [list("abcdefghi")])
        self.assertEqual(Panel({"b": rod(1), "a": rod(2)}).alike(), [["a"], ["b"]])


if __name__ == "__main__":
    unittest.main()
