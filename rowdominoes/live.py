"""Rows whose stones are pushed, lifted and taken away, one operation after another."""

from rowdominoes.checks import check_side, check_stone, is_number
from rowdominoes.errors import AlreadyOpen, InvalidOperation, NotLying, NotStanding
from rowdominoes.rows import felled_by

STANDING = "standing"
LYING = "lying"
TAKEN = "taken"

ARGUMENT_COUNTS = {"push": 2, "lift": 1, "take": 1}


def _is_operation(value):
    if not isinstance(value, tuple) or len(value) == 0 or not isinstance(value[0], str):
        return False
    return value[0] in ARGUMENT_COUNTS and len(value) - 1 == ARGUMENT_COUNTS[value[0]]


def _stones_with(conditions, condition):
    return [stone for stone, found in enumerate(conditions) if found == condition]


def _with_condition(conditions, stones, condition):
    """The conditions of all stones after these ones have got this condition."""
    return tuple([condition if stone in stones else kept for stone, kept in enumerate(conditions)])


def _executed(stones, conditions, operation):
    """The result of an operation, and the conditions of all stones after it."""
    name, stone = operation[:2]
    check_stone(stone, len(stones))
    if name == "push":
        return _pushed(stones, conditions, stone, operation[2])
    if name == "lift":
        return _lifted(conditions, stone)
    return _taken(conditions, stone)


def _pushed(stones, conditions, stone, side):
    check_side(side)
    if conditions[stone] != STANDING:
        raise NotStanding(stone)
    standing = [condition == STANDING for condition in conditions]
    felled = felled_by(stones, standing, stone, side)
    return felled, _with_condition(conditions, felled, LYING)


def _lifted(conditions, stone):
    if conditions[stone] != LYING:
        raise NotLying(stone)
    later = _with_condition(conditions, [stone], STANDING)
    return len(_stones_with(later, STANDING)), later


def _taken(conditions, stone):
    if conditions[stone] == TAKEN:
        raise NotStanding(stone)
    return conditions[stone] == STANDING, _with_condition(conditions, [stone], TAKEN)


class LiveRow:
    """A row of stones that stand, lie on the ground, or have been taken away.

    Its steps are tuples of an operation and the conditions of all stones after
    it: the start, all operations in effect, and those that redo can execute.
    They are never changed in place, so that a block can keep them as they are.
    """

    def __init__(self, row):
        self._stones = row.stones
        self._steps = ((None, (STANDING,) * len(row)),)
        self._last_step = 0
        self._is_open = False
        self._kept_steps = self._steps
        self._kept_last_step = self._last_step

    @classmethod
    def replay(cls, row, operations):
        """A live row after a list of operations."""
        live = cls(row)
        live.apply(*operations)
        return live

    def __enter__(self):
        if self._is_open:
            raise AlreadyOpen("a block of this live row is open")
        self._kept_steps = self._steps
        self._kept_last_step = self._last_step
        self._is_open = True
        return self

    def __exit__(self, kind, value, trace):
        self._steps = self._kept_steps
        self._last_step = self._kept_last_step
        self._is_open = False

    def __contains__(self, stone):
        conditions = self._conditions()
        return is_number(stone, 0, len(conditions) - 1) and conditions[stone] == STANDING

    def __len__(self):
        return len(_stones_with(self._conditions(), STANDING))

    @property
    def standing(self):
        return _stones_with(self._conditions(), STANDING)

    @property
    def lying(self):
        return _stones_with(self._conditions(), LYING)

    @property
    def history(self):
        return [operation for operation, _ in self._steps[1:self._last_step + 1]]

    def _conditions(self):
        return self._steps[self._last_step][1]

    def push(self, stone, side):
        """Push a stone, and return the stones that fall."""
        return self.apply(("push", stone, side))[0]

    def lift(self, stone):
        """Put a stone that lies upright again, and return how many stones stand."""
        return self.apply(("lift", stone))[0]

    def take(self, stone):
        """Take a stone away, and return whether it stood."""
        return self.apply(("take", stone))[0]

    def undo(self):
        """Undo the last operation in effect, and return whether there is one."""
        if self._last_step == 0:
            return False
        self._last_step -= 1
        return True

    def redo(self):
        """Execute the operation again that was undone last, and return whether there is one."""
        if self._last_step == len(self._steps) - 1:
            return False
        self._last_step += 1
        return True

    def apply(self, *operations):
        """Execute all operations, or none if one raises an error, and return their results."""
        for index, operation in enumerate(operations):
            if not _is_operation(operation):
                raise InvalidOperation(index)
        if not operations:
            return []
        results = []
        steps = list(self._steps[:self._last_step + 1])
        for operation in operations:
            result, conditions = _executed(self._stones, steps[-1][1], operation)
            results.append(result)
            steps.append((operation, conditions))
        self._steps = tuple(steps)
        self._last_step = len(steps) - 1
        return results

    def standing_after(self, *operations):
        """The stones that stand after operations; the live row stays as it is."""
        with self:
            self.apply(*operations)
            return self.standing
