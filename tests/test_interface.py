"""The names of the interface stand in the files under which it lists them."""

import importlib
import inspect
import unittest

FUNCTIONS = {
    "rigs": {"rod": 1, "rig_of": 1},
    "memories": {"memory_of": 1},
    "loops": {"loops": 1, "open_swings": 1, "travel": 2, "area": 2},
    "comparison": {"first_unlike": 2, "chain_for": 3, "sum_for": 3},
    "plans": {"fewest_moves": 2, "moves_to": 5},
    "extremes": {"greatest_end": 2},
    "numbering": {"memory_count": 1, "memory_number": 2, "nth_memory": 2, "ends_within": 2},
    "watchers": {"rod_watcher": 2, "pair_watcher": 1},
    "notation": {"parse": 1, "text_of": 1},
    "codes": {"encode": 1, "decode": 1},
    "recordings": {"first_wrong": 2, "recorded": 2, "explained": 2, "shortened": 1},
}
METHODS = {
    ("rigs", "Rig"): ("arms", "pull", "is_forward", "still", "curve", "at", "__call__", "__len__", "__getitem__",
                      "__add__", "__sub__", "__mul__", "__rshift__", "__neg__", "__eq__"),
    ("memories", "Memory"): ("places", "place", "row", "__init__", "__call__", "__len__", "__eq__"),
    ("repeated", "Repeated"): ("ends", "__init__", "__call__", "loops_after", "travel_after", "worn_after"),
    ("watchers", "Watcher"): ("candidates", "history", "memory", "see", "see_all", "possible_ends", "telling_move"),
    ("live", "Live"): ("__init__", "move", "change", "back", "undo", "redo", "apply", "mark", "return_to", "replay",
                       "rig", "memory", "place", "end", "moves", "history", "marks"),
    ("panels", "Panel"): ("__init__", "names", "__call__", "__len__", "__contains__", "__getitem__", "__or__", "__sub__",
                          "__rshift__", "__eq__", "ends_at", "ranking", "alike", "first_change"),
}


class InterfaceTest(unittest.TestCase):
    def test_functions(self):
        for file, functions in FUNCTIONS.items():
            module = importlib.import_module("slackrods." + file)
            for name, many in functions.items():
                with self.subTest(file=file, name=name):
                    function = getattr(module, name)
                    self.assertEqual(function.__module__, module.__name__)
                    self.assertEqual(len(inspect.signature(function).parameters), many)

    def test_methods_stand_in_the_classes_themselves(self):
        for (file, name), methods in METHODS.items():
            module = importlib.import_module("slackrods." + file)
            with self.subTest(file=file, name=name):
                self.assertEqual(getattr(module, name).__module__, module.__name__)
                self.assertEqual([method for method in methods if method not in vars(getattr(module, name))], [])


if __name__ == "__main__":
    unittest.main()
