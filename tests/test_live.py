"""Tests of [18] and [19]: live rigs."""

import unittest

from slackrods.errors import InvalidName, InvalidOperation, InvalidPlace, UnknownName
from slackrods.live import Live
from slackrods.memories import Memory, memory_of
from slackrods.rigs import Rig, rod
from tests import naive
from tests.samples import WRONG_KINDS, generator, model_of_arms, random_chain

FAR = 1000000
WRONG_PLACES = (-FAR - 1, FAR + 1, 10 ** 30) + WRONG_KINDS
WRONG_NAMES = (
    "", "A", "a1", "a b", " a", "abcdefghi", "a_b", "\u00e4", "a\n", None, True, False, 0, 1, [], ["a"], (), ("a",),
)
WRONG_OPERATIONS = (
    (), ("move",), ("move", 1, 2), ("change",), ("change", None), ("change", 3), ("change", "rod(1)"), ("back", 1),
    ("change", rod(1), rod(2)), ("undo", 1), ("redo", None), ("Move", 1), ("mark", "a"), ("return_to", "a"), ("",),
    ("moves", 1), (None,), (True, 1), (["move"], 1), (("move",), 1), ["move", 1], ["back"], "back", "undo", None, True,
    False, 5, [], (1, "move"),
)


def view(live):
    """All that the properties of a live rig tell, with the rigs as their arms."""
    history = [operation[:1] + tuple([getattr(argument, "arms", argument) for argument in operation[1:]])
               for operation in live.history]
    return [live.rig.arms, live.memory.places, live.place, live.end, live.moves, history, live.marks]


def redone(live):
    """What all that can be redone leads to; it is undone again."""
    views = []
    while live.redo():
        views.append(view(live))
    for _ in views:
        live.undo()
    return views


def everything(live):
    """The view of a live rig with what undo and redo lead to."""
    views = [view(live)] + redone(live)
    undone = 0
    while live.undo():
        undone += 1
        views.append(view(live))
    for _ in range(undone):
        live.redo()
    return views


class Played:
    """A live rig by the words of [18] and [19]: all operations in effect are done from the beginning."""

    def __init__(self, rig):
        self.first = rig
        self.history = []
        self.undone = []

    def moves(self):
        moves = []
        for operation in self.history:
            if operation[0] == "move":
                moves.append(operation[1])
            elif operation[0] == "back" and moves:
                moves.append(([0] + moves)[-2])
        return moves

    def rig(self):
        return ([self.first] + [operation[1] for operation in self.history if operation[0] == "change"])[-1]

    def end(self):
        return ([0] + naive.ends(model_of_arms(self.rig().arms)(), self.moves()))[-1]

    def view(self):
        moves = self.moves()
        history = [operation if operation[0] != "change" else ("change", operation[1].arms)
                   for operation in self.history]
        return [self.rig().arms, naive.memory_places(moves), ([0] + moves)[-1], self.end(), moves, history, []]

    def execute(self, operation):
        """Do an operation and return its result."""
        if operation[0] == "undo":
            if self.history:
                self.undone.append(self.history.pop())
                return True
            return False
        if operation[0] == "redo":
            if self.undone:
                self.history.append(self.undone.pop())
                return True
            return False
        before = self.end()
        moved = len(self.moves())
        self.history.append(operation)
        self.undone = []
        if operation[0] == "change":
            return self.end() != before
        return self.end() if len(self.moves()) > moved else None


def execute(live, operation):
    return getattr(live, operation[0])(*operation[1:])


def random_operation(chance, kinds="move move change back back undo undo redo".split()):
    kind = chance.choice(kinds)
    if kind == "move":
        return ("move", chance.randint(-6, 9))
    if kind == "change":
        return ("change", random_chain(chance, chance.randint(1, 2))[0])
    return (kind,)


class LiveTest(unittest.TestCase):
    def test_example(self):
        live = Live(rod(2))
        results = live.apply([("move", 5), ("move", 4), ("back",), ("undo",)])
        self.assertEqual([results, live.moves, live.change(rod(0)), live.end], [[3, 3, 3, True], [5, 4], True, 4])

    def test_at_first(self):
        live = Live(rod(2))
        self.assertEqual(view(live), [((2, 1),), (0,), 0, 0, [], [], []])
        self.assertIsInstance(live.rig, Rig)
        self.assertTrue(live.memory == Memory((0,)))

    def test_results(self):
        live = Live(rod(2))
        self.assertEqual([live.move(5), live.move(4), live.move(1), live.move(-3)], [3, 3, 1, -3])
        self.assertEqual([live.change(rod(2) * 2), live.change(rod(1) * 2), live.change(rod(1))], [True, False, True])
        self.assertEqual([live.back(), live.undo(), live.redo(), live.redo()], [0, True, True, False])

    def test_back(self):
        live = Live(rod(0))
        live.move(5)
        live.move(4)
        self.assertEqual([live.back(), live.back(), live.back()], [5, 4, 5])
        self.assertEqual(live.moves, [5, 4, 5, 4, 5])
        self.assertEqual(live.history, [("move", 5), ("move", 4), ("back",), ("back",), ("back",)])

    def test_back_to_rest(self):
        live = Live(rod(1))
        live.move(5)
        self.assertEqual([live.back(), live.moves, live.memory.places], [0, [5, 0], (0,)])
        live = Live(rod(1))
        live.move(-5)
        self.assertEqual([live.back(), live.moves, live.memory.places], [-1, [-5, 0], (-5, 0)])

    def test_back_without_a_move(self):
        live = Live(rod(1))
        self.assertIsNone(live.back())
        self.assertEqual(view(live), [((1, 1),), (0,), 0, 0, [], [("back",)], []])
        live.change(rod(3))
        self.assertIsNone(live.back())
        self.assertEqual([live.moves, len(live.history)], [[], 3])
        self.assertEqual([live.move(4), live.back()], [1, 0])
        self.assertEqual([live.undo() for _ in range(6)], [True] * 5 + [False])

    def test_back_behind_a_move_to_the_same_place(self):
        live = Live(rod(0))
        live.apply([("move", 5), ("move", 5)])
        self.assertEqual([live.back(), live.moves], [5, [5, 5, 5]])
        live = Live(rod(0))
        live.move(0)
        self.assertEqual([live.back(), live.moves], [0, [0, 0]])

    def test_back_behind_undo(self):
        live = Live(rod(0))
        live.apply([("move", 5), ("move", 4), ("move", 9), ("undo",), ("undo",)])
        self.assertEqual([live.back(), live.moves], [0, [5, 0]])
        live.apply([("undo",), ("undo",)])
        self.assertEqual([live.back(), live.moves], [None, []])

    def test_back_behind_change(self):
        live = Live(rod(0))
        live.apply([("move", 5), ("move", 4), ("change", rod(1))])
        self.assertEqual([live.back(), live.moves], [4, [5, 4, 5]])

    def test_change_as_if_from_the_beginning(self):
        live = Live(rod(5))
        live.apply([("move", 7), ("move", 3)])
        self.assertEqual([live.end, live.change(rod(1)), live.end, live.rig.arms], [2, True, 3, ((1, 1),)])
        self.assertEqual([live.moves, live.memory.places], [[7, 3], (0, 7, 3)])
        self.assertEqual(live.history[2][0], "change")
        self.assertTrue(live.history[2][1] == rod(1))

    def test_against_walking(self):
        chance = generator(61)
        for _ in range(120):
            rig, _ = random_chain(chance, chance.randint(1, 3))
            live, played = Live(rig), Played(rig)
            for _ in range(chance.randint(1, 20)):
                operation = random_operation(chance)
                self.assertEqual(execute(live, operation), played.execute(operation))
                self.assertEqual(view(live), played.view())

    def test_lists_are_free(self):
        live = Live(rod(2))
        live.mark("a")
        live.apply([("move", 5), ("back",)]).clear()
        before = everything(live)
        live.moves.clear()
        live.history.append(("back",))
        live.marks.clear()
        self.assertEqual(everything(live), before)

    def test_list_of_operations_is_not_kept(self):
        operations = [("move", 5), ("move", 4)]
        live = Live(rod(2))
        live.apply(operations)
        self.assertEqual(operations, [("move", 5), ("move", 4)])
        operations.clear()
        self.assertEqual(live.history, [("move", 5), ("move", 4)])

    def test_live_rigs_are_apart(self):
        rig = rod(2)
        one, other = Live(rig), Live(rig)
        one.move(5)
        one.mark("a")
        self.assertEqual(view(other), [((2, 1),), (0,), 0, 0, [], [], []])

    def test_wrong_places(self):
        live = Live(rod(2))
        live.apply([("move", 5), ("move", 4), ("move", 9), ("undo",)])
        before = everything(live)
        for place in WRONG_PLACES:
            with self.subTest(place=place):
                self.assertRaises(InvalidPlace, live.move, place)
                self.assertEqual(everything(live), before)

    def test_farthest_places(self):
        live = Live(rod(2))
        self.assertEqual([live.move(FAR), live.move(-FAR), live.back()], [FAR - 2, -FAR, FAR - 2])

    def test_many_moves(self):
        # Rows have at most 1,000 places, a live rig can have more moves.
        live = Live(rod(3))
        for turn in range(3000):
            live.move(turn % 7)
        self.assertEqual([len(live.moves), live.memory.places], [3000, memory_of([6, 0, 3]).places])
        self.assertEqual(live.end, rod(3)([6, 0, 3])[-1])


class UndoTest(unittest.TestCase):
    def test_nothing_to_undo(self):
        live = Live(rod(2))
        self.assertEqual([live.undo(), live.redo(), live.undo()], [False, False, False])
        self.assertEqual(view(live), [((2, 1),), (0,), 0, 0, [], [], []])

    def test_each_kind(self):
        for operation in (("move", 9), ("change", rod(0)), ("back",)):
            live = Live(rod(2))
            live.apply([("move", 5), ("move", 4)])
            before = view(live)
            execute(live, operation)
            after = view(live)
            self.assertNotEqual(before, after)
            self.assertEqual([live.undo(), view(live)], [True, before])
            self.assertEqual([live.redo(), view(live)], [True, after])
            self.assertEqual([live.redo(), view(live)], [False, after])

    def test_several(self):
        live = Live(rod(2))
        live.apply([("move", 5), ("change", rod(1)), ("back",)])
        self.assertEqual([live.undo(), live.undo(), live.undo(), live.undo()], [True, True, True, False])
        self.assertEqual([live.redo(), live.redo(), live.redo(), live.redo()], [True, True, True, False])
        self.assertEqual([live.moves, live.rig.arms, len(live.history)], [[5, 0], ((1, 1),), 3])

    def test_redo_behind_a_further_operation(self):
        for operation in (("move", 9), ("change", rod(0)), ("change", rod(2)), ("back",)):
            live = Live(rod(2))
            live.apply([("move", 5), ("move", 4), ("undo",), ("undo",), ("redo",)])
            execute(live, operation)
            before = view(live)
            self.assertEqual([live.redo(), view(live)], [False, before])
            self.assertEqual([live.undo(), live.moves, live.redo(), view(live)], [True, [5], True, before])

    def test_redo_behind_back_without_a_move(self):
        live = Live(rod(2))
        live.apply([("move", 5), ("undo",), ("back",)])
        self.assertEqual([live.redo(), live.history], [False, [("back",)]])

    def test_undo_and_redo_are_no_operations(self):
        live = Live(rod(2))
        live.apply([("move", 5), ("move", 4), ("undo",), ("redo",), ("undo",)])
        self.assertEqual(live.history, [("move", 5)])


class ApplyTest(unittest.TestCase):
    def started(self):
        live = Live(rod(2))
        live.apply([("move", 5), ("move", 4), ("back",), ("move", 1), ("undo",), ("undo",)])
        live.mark("a")
        return live

    def test_none(self):
        live = self.started()
        before = everything(live)
        self.assertEqual([live.apply([]), everything(live)], [[], before])

    def test_against_one_after_another(self):
        chance = generator(62)
        for _ in range(100):
            rig, _ = random_chain(chance, 1)
            one, other = Live(rig), Live(rig)
            for _ in range(3):
                operations = [random_operation(chance) for _ in range(chance.randint(0, 8))]
                self.assertEqual(one.apply(operations), [execute(other, operation) for operation in operations])
                self.assertEqual(everything(one), everything(other))

    def test_operations_of_a_history(self):
        chance = generator(63)
        for _ in range(50):
            live = Live(rod(2))
            live.apply([random_operation(chance) for _ in range(12)])
            self.assertEqual(view(Live.replay(rod(2), live.history)), view(live))

    def test_malformed_operations(self):
        live = self.started()
        before = everything(live)
        for wrong in WRONG_OPERATIONS:
            for index, operations in (
                (0, [wrong]), (2, [("move", 9), ("change", rod(1)), wrong, None]), (1, [("undo",), wrong, ("redo",)]),
                # It is found ahead of all execution.
                (1, [("move", None), wrong]), (2, [("back",), ("move", FAR + 1), wrong]),
            ):
                with self.subTest(operations=operations):
                    with self.assertRaises(InvalidOperation) as caught:
                        live.apply(operations)
                    self.assertEqual(caught.exception.index, index)
                    self.assertEqual(everything(live), before)

    def test_what_is_no_list(self):
        live = self.started()
        before = everything(live)
        for wrong in (None, True, 5, "", "back", (), (("back",),), ("back",), ("move", 5)):
            with self.subTest(wrong=wrong):
                with self.assertRaises(InvalidOperation) as caught:
                    live.apply(wrong)
                self.assertEqual([caught.exception.index, everything(live)], [0, before])

    def test_another_exception_in_the_middle(self):
        live = self.started()
        before = everything(live)
        for place in WRONG_PLACES:
            for operations in (
                [("move", place)], [("move", 9), ("move", 8), ("move", place), ("move", 7)],
                [("undo",), ("undo",), ("change", rod(0)), ("move", place)], [("redo",), ("move", place)],
                [("back",), ("move", place), ("undo",)], [("undo",), ("redo",), ("move", place)],
            ):
                with self.subTest(operations=operations):
                    self.assertRaises(InvalidPlace, live.apply, operations)
                    self.assertEqual(everything(live), before)

    def test_replay(self):
        operations = [("move", 5), ("move", 4), ("change", rod(1)), ("back",), ("undo",), ("redo",), ("undo",)]
        live = Live.replay(rod(2), operations)
        other = Live(rod(2))
        other.apply(operations)
        self.assertIsInstance(live, Live)
        self.assertEqual(everything(live), everything(other))
        self.assertEqual([live.redo(), live.moves], [True, [5, 4, 5]])
        self.assertEqual(view(Live.replay(rod(3), [])), view(Live(rod(3))))

    def test_wrong_replay(self):
        for wrong in WRONG_OPERATIONS:
            with self.assertRaises(InvalidOperation) as caught:
                Live.replay(rod(2), [("move", 5), ("move", None), wrong])
            self.assertEqual(caught.exception.index, 2)
        for wrong in (None, True, 5, "", (), (("back",),)):
            with self.assertRaises(InvalidOperation) as caught:
                Live.replay(rod(2), wrong)
            self.assertEqual(caught.exception.index, 0)
        self.assertRaises(InvalidPlace, Live.replay, rod(2), [("move", 5), ("move", FAR + 1)])


class MarkTest(unittest.TestCase):
    def test_return(self):
        live = Live(rod(2))
        live.apply([("move", 5), ("move", 4), ("move", 9), ("undo",)])
        self.assertIsNone(live.mark("a"))
        before = everything(live)
        live.apply([("move", 3), ("change", rod(0)), ("back",)])
        self.assertIsNone(live.return_to("a"))
        self.assertEqual(everything(live), before)

    def test_undo_and_redo_behind_a_return(self):
        live = Live(rod(2))
        live.apply([("move", 5), ("move", 4), ("move", 9), ("undo",)])
        live.mark("a")
        live.apply([("undo",), ("undo",), ("move", 1)])
        live.return_to("a")
        self.assertEqual([live.redo(), live.moves], [True, [5, 4, 9]])
        live.return_to("a")
        self.assertEqual([live.undo(), live.moves, live.redo(), live.redo()], [True, [5], True, True])
        self.assertEqual(live.moves, [5, 4, 9])

    def test_returning_twice(self):
        live = Live(rod(2))
        live.apply([("move", 5), ("move", 4), ("undo",)])
        live.mark("a")
        before = everything(live)
        for operations in ([("undo",)], [("redo",)], [("move", 7), ("undo",)], [("undo",), ("change", rod(0))]):
            live.apply(operations)
            live.return_to("a")
            self.assertEqual(everything(live), before)

    def test_marked_twice(self):
        live = Live(rod(2))
        live.move(5)
        live.mark("a")
        live.move(4)
        live.mark("a")
        live.move(3)
        live.return_to("a")
        self.assertEqual([live.moves, live.marks], [[5, 4], ["a"]])

    def test_several_marks(self):
        live = Live(rod(2))
        self.assertEqual(live.marks, [])
        live.mark("rest")
        live.move(5)
        live.mark("five")
        live.change(rod(0))
        live.mark("abcdefgh")
        self.assertEqual(live.marks, ["abcdefgh", "five", "rest"])
        live.return_to("rest")
        self.assertEqual([live.moves, live.marks], [[], ["abcdefgh", "five", "rest"]])
        live.return_to("five")
        self.assertEqual([live.moves, live.rig.arms], [[5], ((2, 1),)])
        live.return_to("abcdefgh")
        self.assertEqual([live.moves, live.rig.arms, live.end], [[5], ((0, 1),), 5])

    def test_neither_is_an_operation(self):
        live = Live(rod(2))
        live.apply([("move", 5), ("undo",)])
        live.mark("a")
        self.assertEqual([live.history, live.redo()], [[], True])
        live.return_to("a")
        self.assertEqual([live.history, live.undo(), live.redo(), live.history], [[], False, True, [("move", 5)]])

    def test_marks_stay_when_apply_fails(self):
        live = Live(rod(2))
        live.move(5)
        live.mark("a")
        self.assertRaises(InvalidPlace, live.apply, [("undo",), ("move", None)])
        live.move(9)
        live.return_to("a")
        self.assertEqual([live.marks, live.moves], [["a"], [5]])

    def test_wrong_names(self):
        live = Live(rod(2))
        live.apply([("move", 5), ("move", 4), ("undo",)])
        live.mark("a")
        before = everything(live)
        for name in WRONG_NAMES:
            with self.subTest(name=name):
                self.assertRaises(InvalidName, live.mark, name)
                self.assertRaises(UnknownName, live.return_to, name)
                self.assertEqual(everything(live), before)

    def test_unknown_names(self):
        live = Live(rod(2))
        self.assertRaises(UnknownName, live.return_to, "a")
        live.mark("a")
        live.move(3)
        before = everything(live)
        for name in ("b", "aa", "abcdefgh"):
            self.assertRaises(UnknownName, live.return_to, name)
        self.assertEqual(everything(live), before)

    def test_limits_of_names(self):
        live = Live(rod(2))
        for name in ("a", "z", "az", "abcdefgh", "zzzzzzzz"):
            live.mark(name)
        self.assertEqual(live.marks, ["a", "abcdefgh", "az", "z", "zzzzzzzz"])


if __name__ == "__main__":
    unittest.main()
