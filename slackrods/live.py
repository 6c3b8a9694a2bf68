"""Live rigs: operations that can be undone and redone, and marks to return to."""

from slackrods.checks import check_name, check_place
from slackrods.errors import InvalidOperation, RodError, UnknownName
from slackrods.memories import Memory
from slackrods.rigs import Rig

# By the names of the operations, how many items their tuples have.
LENGTHS = {"move": 2, "change": 2, "back": 1, "undo": 1, "redo": 1}


def _is_operation(operation):
    """Tell whether a value is a tuple of an operation's name and its arguments."""
    if not isinstance(operation, tuple) or len(operation) == 0 or not isinstance(operation[0], str):
        return False
    if LENGTHS.get(operation[0], 0) != len(operation):
        return False
    return operation[0] != "change" or isinstance(operation[1], Rig)


def _check_operations(operations):
    """Raise InvalidOperation for what is no list of operations."""
    if not isinstance(operations, list):
        raise InvalidOperation(0)
    for index, operation in enumerate(operations):
        if not _is_operation(operation):
            raise InvalidOperation(index)


class Live:
    """A rig whose handle is moved, and which can be changed, with undo and redo."""

    def __init__(self, rig):
        # A state is a tuple (operation, rig, memory, ahead): what the operation led
        # to, and where the handle was ahead of its last move, None without a move.
        # The first state is that at rest, ahead of all operations.
        self._states = [((), rig, Memory((0,)), None)]
        self._undone = []
        self._marks = {}

    @property
    def rig(self):
        """The rig that is there now."""
        return self._states[-1][1]

    @property
    def memory(self):
        """The memory of the handle."""
        return self._states[-1][2]

    @property
    def place(self):
        """The place of the handle."""
        return self.memory.place

    @property
    def end(self):
        """The place of the end."""
        return self.rig.at(self.memory)

    @property
    def moves(self):
        """The places of all moves in effect."""
        return [
            memory.place for operation, _, memory, ahead in self._states
            if ahead is not None and operation[0] != "change"
        ]

    @property
    def history(self):
        """All operations in effect."""
        return [state[0] for state in self._states[1:]]

    @property
    def marks(self):
        """The names of all marks, ascending."""
        return sorted(self._marks)

    def _put(self, operation, rig, memory, ahead):
        """Put the state behind a new operation, which leaves nothing to redo."""
        self._states.append((operation, rig, memory, ahead))
        self._undone = []

    def move(self, place):
        """Move the handle and return the place of the end."""
        check_place(place)
        memory = self.memory
        self._put(("move", place), self.rig, memory(place), memory.place)
        return self.end

    def change(self, rig):
        """Put another rig in place of the rig and return whether the end is at another place then."""
        _, before, memory, ahead = self._states[-1]
        moved = rig.at(memory) != before.at(memory)
        self._put(("change", rig), rig, memory, ahead)
        return moved

    def back(self):
        """Move the handle to where it was ahead of its last move and return the place of the end, or None."""
        _, rig, memory, ahead = self._states[-1]
        if ahead is None:
            self._put(("back",), rig, memory, None)
            return None
        self._put(("back",), rig, memory(ahead), memory.place)
        return self.end

    def undo(self):
        """Undo the last operation in effect and return whether there was one."""
        if len(self._states) == 1:
            return False
        self._undone.append(self._states.pop())
        return True

    def redo(self):
        """Redo the operation that was undone last and return whether there was one."""
        if len(self._undone) == 0:
            return False
        self._states.append(self._undone.pop())
        return True

    def _execute(self, operation):
        """Execute an operation and return its result."""
        name = operation[0]
        if name == "move":
            return self.move(operation[1])
        if name == "change":
            return self.change(operation[1])
        if name == "back":
            return self.back()
        return self.undo() if name == "undo" else self.redo()

    def apply(self, operations):
        """Execute operations, all or none, and return the list of their results."""
        _check_operations(operations)
        states = list(self._states)
        undone = list(self._undone)
        results = []
        try:
            for operation in operations:
                results.append(self._execute(operation))
        except RodError:
            self._states = states
            self._undone = undone
            raise
        return results

    def mark(self, name):
        """Keep all operations, in effect and undone, under a name."""
        check_name(name)
        self._marks[name] = (list(self._states), list(self._undone))

    def return_to(self, name):
        """Return to what is kept under a name."""
        if not isinstance(name, str) or name not in self._marks:
            raise UnknownName("nothing is kept under this name")
        states, undone = self._marks[name]
        self._states = list(states)
        self._undone = list(undone)

    @classmethod
    def replay(cls, rig, operations):
        """Return a live rig after a list of operations."""
        live = cls(rig)
        live.apply(operations)
        return live
