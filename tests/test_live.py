"""Live rows: points 11, 12 and 1."""

import random
import unittest

from samples import SIDES, WRONG_SIDES, WRONG_STONES, mixed_rows, tumble

from rowdominoes.errors import (AlreadyOpen, InvalidOperation, InvalidSide, NotLying, NotStanding, StoneError,
                                UnknownStone)
from rowdominoes.live import LiveRow
from rowdominoes.rows import Row

FIVE = Row((0, 2), (2, 1), (5, 4), (6, 1), (9, 1))
CHAIN = Row.even(5, 2, 2)
WRONG_OPERATIONS = (None, True, 0, 5, "", "push", "take", [], ["take", 0], ["push", 0, "left"], (), ("take",),
                    ("push",), ("lift",), ("push", 0), ("push", 0, "left", 0), ("take", 0, "left"), ("lift", 0, 0),
                    ("Push", 0, "left"), ("undo",), ("redo",), ("apply", 0), ("standing", 0), ("", 0), (None, 0),
                    (0, 0), (True, 0), ([], 0), (["take"], 0), (("take",), 0), (("take", 0),), ("push", (0, "left")))


class Failed(Exception):
    """An error that no live row raises."""


class Reference:
    """A live row in the plainest way: sets of stones, and a copy of them for each step."""

    def __init__(self, row):
        self.stones = row.stones
        self.standing = set(range(len(row)))
        self.lying = set()
        self.done = []
        self.undone = []

    def execute(self, name, stone, side=None):
        before = (set(self.standing), set(self.lying))
        if name == "push":
            fallen = set(tumble(self.stones, sorted(self.standing), stone, side))
            self.standing -= fallen
            self.lying |= fallen
            result = sorted(fallen)
        elif name == "lift":
            self.lying.remove(stone)
            self.standing.add(stone)
            result = len(self.standing)
        else:
            result = stone in self.standing
            self.standing.discard(stone)
            self.lying.discard(stone)
        operation = (name, stone) if side is None else (name, stone, side)
        self.done.append((operation, before))
        self.undone = []
        return result

    def undo(self):
        if not self.done:
            return False
        operation, before = self.done.pop()
        self.undone.append((operation, (self.standing, self.lying)))
        self.standing, self.lying = before
        return True

    def redo(self):
        if not self.undone:
            return False
        operation, after = self.undone.pop()
        self.done.append((operation, (self.standing, self.lying)))
        self.standing, self.lying = after
        return True

    def possible(self):
        """All operations that raise no error."""
        pushes = [("push", stone, side) for stone in sorted(self.standing) for side in SIDES]
        lifts = [("lift", stone) for stone in sorted(self.lying)]
        return pushes + lifts + [("take", stone) for stone in sorted(self.standing | self.lying)]


def seen(live):
    return [live.standing, live.lying, live.history, len(live)]


def all_seen(live):
    """What can be seen of a live row, now and by all undo and redo; it is as before afterwards."""
    found = [seen(live)]
    undone = 0
    while live.undo():
        undone += 1
        found.append(seen(live))
    redone = 0
    while live.redo():
        redone += 1
        found.append(seen(live))
    for _ in range(redone - undone):
        live.undo()
    return found


class LiveCase(unittest.TestCase):

    def assert_unlike_stone(self, error, stone, called, *arguments):
        with self.assertRaises(error) as caught:
            called(*arguments)
        self.assertEqual(caught.exception.stone, stone)


class ExamplesTest(LiveCase):

    def test_push(self):
        live = LiveRow(FIVE)
        found = [live.push(0, "right"), live.push(3, "left"), live.standing, live.lying]
        self.assertEqual(found, [[0, 1], [2, 3], [4], [0, 1, 2, 3]])
        live = LiveRow(FIVE)
        live.push(0, "right")
        self.assert_unlike_stone(NotStanding, 1, live.push, 1, "left")

    def test_lift_and_take(self):
        live = LiveRow(FIVE)
        live.push(0, "right")
        found = [live.lift(1), live.take(0), live.take(2), 1 in live, len(live)]
        self.assertEqual(found, [4, False, True, True, 3])
        self.assert_unlike_stone(NotLying, 0, LiveRow(FIVE).lift, 0)

    def test_properties(self):
        live = LiveRow(FIVE)
        live.take(4)
        self.assertEqual([live.standing, live.lying, live.history], [[0, 1, 2, 3], [], [("take", 4)]])

    def test_undo_and_redo(self):
        live = LiveRow(FIVE)
        live.push(0, "right")
        self.assertEqual([live.undo(), live.undo(), live.redo(), len(live)], [True, False, True, 3])

    def test_apply(self):
        self.assertEqual(LiveRow(FIVE).apply(("push", 0, "right"), ("lift", 0)), [[0, 1], 4])
        with self.assertRaises(InvalidOperation) as caught:
            LiveRow(FIVE).apply(("lift", 0), ("push", 0))
        self.assertEqual(caught.exception.index, 1)

    def test_replay_and_standing_after(self):
        self.assertEqual(LiveRow.replay(FIVE, [("push", 2, "right")]).standing, [0, 1])
        live = LiveRow(FIVE)
        self.assertEqual([live.standing_after(("push", 3, "left")), len(live)], [[0, 4], 5])


class OperationsTest(LiveCase):

    def test_at_first_all_stones_stand(self):
        for count in (0, 1, 5, 40):
            live = LiveRow(Row(*[(place, 1) for place in range(count)]))
            self.assertEqual(seen(live), [list(range(count)), [], [], count])

    def test_stones_fall_over_those_that_lie(self):
        row = Row((0, 4), (2, 1), (4, 1), (5, 1))
        live = LiveRow(row)
        self.assertEqual([live.push(1, "right"), live.push(0, "right")], [[1], [0, 2, 3]])

    def test_stones_that_are_gone_are_not_hit_and_hit_nothing(self):
        live = LiveRow(CHAIN)
        live.take(2)
        self.assertEqual([live.push(0, "right"), live.push(4, "left")], [[0, 1], [3, 4]])
        live = LiveRow(Row((0, 4), (2, 9), (4, 1), (9, 1)))
        live.take(1)
        self.assertEqual([live.push(0, "right"), live.lying, live.standing], [[0, 2], [0, 2], [3]])

    def test_a_lifted_stone_is_hit_again(self):
        live = LiveRow(CHAIN)
        self.assertEqual(live.push(0, "right"), [0, 1, 2, 3, 4])
        self.assertEqual([live.lift(1), live.lift(3), live.lift(2)], [1, 2, 3])
        self.assertEqual([live.push(2, "right"), live.push(1, "left")], [[2, 3], [1]])

    def test_a_lying_stone_that_is_taken(self):
        live = LiveRow(CHAIN)
        live.push(3, "right")
        self.assertEqual([live.take(3), live.lying, live.standing], [False, [4], [0, 1, 2]])
        self.assert_unlike_stone(NotLying, 3, live.lift, 3)
        self.assert_unlike_stone(NotStanding, 3, live.take, 3)

    def test_unknown_stones(self):
        live = LiveRow(FIVE)
        for stone in WRONG_STONES + (5,):
            for side in ("left", "up", None):
                with self.subTest(stone=stone, side=side), self.assertRaises(UnknownStone):
                    live.push(stone, side)
            with self.subTest(stone=stone):
                with self.assertRaises(UnknownStone):
                    live.lift(stone)
                with self.assertRaises(UnknownStone):
                    live.take(stone)
        for call in (lambda live: live.push(0, "left"), lambda live: live.lift(0), lambda live: live.take(0)):
            with self.assertRaises(UnknownStone):
                call(LiveRow(Row()))

    def test_wrong_sides_ahead_of_stones_that_do_not_stand(self):
        live = LiveRow(FIVE)
        live.take(1)
        live.push(4, "right")
        for side in WRONG_SIDES:
            for stone in (0, 1, 4):
                with self.subTest(side=side, stone=stone), self.assertRaises(InvalidSide):
                    live.push(stone, side)

    def test_stones_that_do_not_stand(self):
        live = LiveRow(FIVE)
        live.take(1)
        live.push(4, "right")
        for side in SIDES:
            self.assert_unlike_stone(NotStanding, 1, live.push, 1, side)
            self.assert_unlike_stone(NotStanding, 4, live.push, 4, side)
        self.assert_unlike_stone(NotStanding, 1, live.take, 1)

    def test_stones_that_do_not_lie(self):
        live = LiveRow(FIVE)
        live.take(1)
        for stone in range(5):
            self.assert_unlike_stone(NotLying, stone, live.lift, stone)

    def test_errors_change_nothing(self):
        live = LiveRow.replay(FIVE, [("push", 0, "right"), ("take", 4), ("lift", 1), ("take", 3)])
        live.undo()
        before = all_seen(live)
        for operation in (("push", 9, "left"), ("push", 1, "up"), ("push", 0, "left"), ("lift", 1), ("lift", 4),
                          ("lift", None), ("take", 4), ("take", -1)):
            with self.subTest(operation=operation), self.assertRaises(StoneError):
                getattr(live, operation[0])(*operation[1:])
            self.assertEqual(all_seen(live), before)

    def test_stone_in_live(self):
        live = LiveRow(FIVE)
        live.push(0, "right")
        live.take(4)
        self.assertEqual([stone in live for stone in range(5)], [False, False, True, True, False])
        self.assertIs(2 in live, True)
        self.assertIs(0 in live, False)
        for stone in WRONG_STONES + (5, (5, 4), ["push"], {}):
            with self.subTest(stone=stone):
                self.assertIs(stone in LiveRow(FIVE), False)
        self.assertIs(0 in LiveRow(Row()), False)

    def test_kinds(self):
        live = LiveRow(FIVE)
        self.assertIs(live.take(0), True)
        live.push(1, "right")
        self.assertIs(live.take(1), False)
        self.assertIs(live.undo(), True)
        self.assertIs(live.redo(), True)
        self.assertIs(live.redo(), False)
        self.assertIs(LiveRow(FIVE).undo(), False)
        for found in seen(live)[:3]:
            self.assertIs(type(found), list)
        self.assertEqual(live.history, [("take", 0), ("push", 1, "right"), ("take", 1)])


class ReferenceTest(LiveCase):

    def assert_alike(self, live, other, count):
        self.assertEqual(live.standing, sorted(other.standing))
        self.assertEqual(live.lying, sorted(other.lying))
        self.assertEqual(live.history, [operation for operation, _ in other.done])
        self.assertEqual(len(live), len(other.standing))
        self.assertEqual([stone in live for stone in range(count)],
                         [stone in other.standing for stone in range(count)])

    def test_operations_with_undo_and_redo(self):
        chance = random.Random(31)
        for row in mixed_rows(60, 9, 32):
            live, other = LiveRow(row), Reference(row)
            for _ in range(60):
                word = chance.choice(("undo", "redo", "one", "one", "one", "apply"))
                if word in ("undo", "redo"):
                    self.assertIs(getattr(live, word)(), getattr(other, word)())
                elif word == "one" and other.possible():
                    name, *arguments = chance.choice(other.possible())
                    self.assertEqual(getattr(live, name)(*arguments), other.execute(name, *arguments))
                else:
                    operations, results = [], []
                    for _ in range(chance.randint(0, 3)):
                        if other.possible():
                            operations.append(chance.choice(other.possible()))
                            results.append(other.execute(*operations[-1]))
                    self.assertEqual(live.apply(*operations), results)
                self.assert_alike(live, other, len(row))
            again = LiveRow.replay(row, live.history)
            self.assert_alike(again, other, len(row))


class UndoRedoTest(LiveCase):

    def test_all_the_way_back_and_forth(self):
        live = LiveRow(FIVE)
        found = [seen(live)]
        for operation in (("push", 0, "right"), ("lift", 0), ("take", 1), ("push", 3, "left")):
            live.apply(operation)
            found.append(seen(live))
        for before in found[-2::-1]:
            self.assertIs(live.undo(), True)
            self.assertEqual(seen(live), before)
        self.assertIs(live.undo(), False)
        self.assertEqual(seen(live), found[0])
        for after in found[1:]:
            self.assertIs(live.redo(), True)
            self.assertEqual(seen(live), after)
        self.assertIs(live.redo(), False)
        self.assertEqual(seen(live), found[-1])

    def test_nothing_to_redo_after_an_operation(self):
        for operation in (("push", 4, "left"), ("take", 4), ("lift", 0)):
            live = LiveRow.replay(FIVE, [("push", 0, "right"), ("take", 3)])
            live.undo()
            live.apply(operation)
            self.assertIs(live.redo(), False)
            self.assertEqual(live.history, [("push", 0, "right"), operation])

    def test_redo_after_an_operation_that_fails(self):
        live = LiveRow.replay(FIVE, [("take", 3)])
        live.undo()
        with self.assertRaises(NotLying):
            live.lift(3)
        self.assertIs(live.redo(), True)
        self.assertEqual(live.history, [("take", 3)])

    def test_operations_of_apply_are_undone_one_by_one(self):
        live = LiveRow(FIVE)
        live.apply(("take", 0), ("take", 1), ("take", 2))
        self.assertEqual([live.undo(), live.standing], [True, [2, 3, 4]])
        self.assertEqual([live.undo(), live.standing], [True, [1, 2, 3, 4]])
        self.assertEqual([live.redo(), live.standing], [True, [2, 3, 4]])
        self.assertEqual(live.history, [("take", 0), ("take", 1)])


class ApplyTest(LiveCase):

    def test_results(self):
        live = LiveRow(FIVE)
        results = live.apply(("take", 4), ("push", 2, "left"), ("take", 2), ("take", 1))
        self.assertEqual(results, [True, [1, 2], False, False])
        self.assertEqual(live.history, [("take", 4), ("push", 2, "left"), ("take", 2), ("take", 1)])

    def test_no_operations(self):
        live = LiveRow.replay(FIVE, [("take", 0), ("take", 1)])
        live.undo()
        before = all_seen(live)
        self.assertEqual(live.apply(), [])
        self.assertEqual(all_seen(live), before)
        self.assertIs(live.redo(), True)
        self.assertEqual(live.history, [("take", 0), ("take", 1)])

    def test_invalid_operations(self):
        live = LiveRow.replay(FIVE, [("take", 0), ("push", 1, "left")])
        live.undo()
        before = all_seen(live)
        for wrong in WRONG_OPERATIONS:
            for operations, index in (((wrong,), 0), ((("take", 1), wrong), 1), ((wrong, ("take", 1), None), 0),
                                      ((("take", 99), ("lift", 1), wrong), 2)):
                with self.subTest(operations=operations):
                    for called in (live.apply, live.standing_after, lambda *found: LiveRow.replay(FIVE, list(found))):
                        with self.assertRaises(InvalidOperation) as caught:
                            called(*operations)
                        self.assertEqual(caught.exception.index, index)
                    self.assertEqual(all_seen(live), before)

    def test_wrong_arguments_are_errors_of_the_operation(self):
        for stone in WRONG_STONES + (5,):
            for operation in (("push", stone, None), ("lift", stone), ("take", stone)):
                with self.subTest(operation=operation), self.assertRaises(UnknownStone):
                    LiveRow(FIVE).apply(operation)
        for side in WRONG_SIDES:
            with self.subTest(side=side), self.assertRaises(InvalidSide):
                LiveRow(FIVE).apply(("push", 0, side))

    def test_all_or_none(self):
        live = LiveRow.replay(FIVE, [("push", 0, "right"), ("take", 4)])
        live.undo()
        before = all_seen(live)
        for last, error in ((("push", 0, "left"), NotStanding), (("push", 3, "up"), InvalidSide),
                            (("lift", 3), NotLying), (("take", 5), UnknownStone), (("take", 4), NotStanding)):
            for called in (live.apply, live.standing_after):
                with self.subTest(last=last), self.assertRaises(error):
                    called(("take", 4), ("lift", 1), last, ("take", 3))
                self.assertEqual(all_seen(live), before)
            with self.assertRaises(error):
                LiveRow.replay(FIVE, before[0][2] + [("take", 4), ("lift", 1), last])

    def test_the_stone_of_an_error(self):
        self.assert_unlike_stone(NotStanding, 3, LiveRow(FIVE).apply, ("take", 3), ("push", 3, "left"))
        self.assert_unlike_stone(NotLying, 2, LiveRow(FIVE).apply, ("take", 3), ("lift", 2))


class ReplayTest(LiveCase):

    def test_no_operations(self):
        live = LiveRow.replay(FIVE, [])
        self.assertIsInstance(live, LiveRow)
        self.assertEqual(seen(live), [[0, 1, 2, 3, 4], [], [], 5])
        self.assertIs(live.undo(), False)

    def test_operations_can_be_undone(self):
        live = LiveRow.replay(FIVE, [("push", 0, "right"), ("lift", 1)])
        self.assertEqual(seen(live), [[1, 2, 3, 4], [0], [("push", 0, "right"), ("lift", 1)], 4])
        self.assertEqual([live.undo(), live.lying], [True, [0, 1]])

    def test_the_list_is_not_kept(self):
        operations = [("take", 0)]
        live = LiveRow.replay(FIVE, operations)
        self.assertEqual(operations, [("take", 0)])
        operations.append(("take", 1))
        self.assertEqual(live.history, [("take", 0)])

    def test_off_an_object(self):
        live = LiveRow.replay(FIVE, [("take", 0)])
        self.assertEqual(live.replay(CHAIN, [("take", 4)]).history, [("take", 4)])
        self.assertEqual(live.history, [("take", 0)])


class BlockTest(LiveCase):

    def live(self):
        live = LiveRow.replay(FIVE, [("push", 0, "right"), ("lift", 1), ("take", 3), ("take", 4)])
        live.undo()
        return live

    def change(self, live):
        live.undo()
        live.undo()
        live.push(4, "left")
        live.apply(("lift", 0), ("take", 2))
        live.undo()

    def test_all_is_as_before(self):
        live = self.live()
        before = all_seen(live)
        with live:
            self.change(live)
            self.assertNotEqual(all_seen(live), before)
        self.assertEqual(all_seen(live), before)

    def test_after_an_error(self):
        live = self.live()
        before = all_seen(live)
        with self.assertRaises(Failed):
            with live:
                self.change(live)
                raise Failed
        self.assertEqual(all_seen(live), before)
        with self.assertRaises(UnknownStone):
            with live:
                self.change(live)
                live.take(9)
        self.assertEqual(all_seen(live), before)

    def test_undo_and_redo_after_a_block(self):
        live = self.live()
        with live:
            live.redo()
            live.take(1)
        self.assertEqual(live.history, [("push", 0, "right"), ("lift", 1), ("take", 3)])
        self.assertIs(live.redo(), True)
        self.assertEqual(live.history[-1], ("take", 4))
        self.assertIs(live.redo(), False)
        with live:
            live.undo()
            live.undo()
        self.assertIs(live.redo(), False)
        self.assertIs(live.undo(), True)

    def test_blocks_one_after_another(self):
        live = self.live()
        before = all_seen(live)
        for _ in range(3):
            with live:
                self.change(live)
            self.assertEqual(all_seen(live), before)
        live.take(1)
        before = all_seen(live)
        with live:
            self.change(live)
        self.assertEqual(all_seen(live), before)

    def test_a_block_within_a_block(self):
        live = self.live()
        before = all_seen(live)
        with live:
            live.take(1)
            inside = all_seen(live)
            with self.assertRaises(AlreadyOpen):
                with live:
                    self.fail("a second block was entered")
            self.assertEqual(all_seen(live), inside)
            with self.assertRaises(AlreadyOpen):
                with live:
                    pass
            live.take(2)
        self.assertEqual(all_seen(live), before)
        with self.assertRaises(AlreadyOpen):
            with live:
                live.take(1)
                with live:
                    pass
        self.assertEqual(all_seen(live), before)
        with live:
            pass

    def test_blocks_of_other_live_rows(self):
        live, other = self.live(), self.live()
        with live:
            with other:
                other.take(1)
            live.take(2)
            self.assertEqual(other.standing, [1, 2, 4])
            self.assertEqual(live.standing, [1, 4])
        self.assertEqual(live.standing, [1, 2, 4])

    def test_the_live_row_of_a_block(self):
        live = self.live()
        with live as same:
            self.assertIs(same, live)


class StandingAfterTest(LiveCase):

    def test_it_stays_as_it_is(self):
        live = LiveRow.replay(FIVE, [("take", 0), ("take", 1)])
        live.undo()
        before = all_seen(live)
        self.assertEqual(live.standing_after(("push", 2, "left"), ("take", 4)), [3])
        self.assertEqual(live.standing_after(), [1, 2, 3, 4])
        self.assertEqual(all_seen(live), before)

    def test_within_a_block(self):
        live = LiveRow(FIVE)
        with live:
            live.take(0)
            for operations in ((), (("take", 1),), (("take", 9),), (None,)):
                with self.assertRaises(AlreadyOpen):
                    live.standing_after(*operations)
            self.assertEqual(live.standing, [1, 2, 3, 4])
            live.take(1)
        self.assertEqual(live.standing, [0, 1, 2, 3, 4])
        self.assertEqual(live.standing_after(("take", 3)), [0, 1, 2, 4])

    def test_a_block_after_an_error(self):
        live = LiveRow(FIVE)
        with self.assertRaises(NotLying):
            live.standing_after(("take", 0), ("lift", 0))
        self.assertEqual(live.standing_after(("take", 3)), [0, 1, 2, 4])
        self.assertEqual(live.history, [])


class ValuesTest(LiveCase):

    def test_returned_lists_may_be_modified(self):
        live = LiveRow(FIVE)
        live.push(0, "right").append(4)
        live.apply(("push", 4, "right"))[0].clear()
        self.assertEqual(live.lying, [0, 1, 4])
        for found in (live.standing, live.lying, live.history, live.standing_after(), live.apply()):
            found.append(3)
        self.assertEqual(seen(live), [[2, 3], [0, 1, 4], [("push", 0, "right"), ("push", 4, "right")], 2])
        self.assertEqual([live.standing_after(), live.apply()], [[2, 3], []])

    def test_live_rows_share_nothing(self):
        live, other = LiveRow(FIVE), LiveRow(FIVE)
        live.take(0)
        self.assertEqual(seen(other), [[0, 1, 2, 3, 4], [], [], 5])
        self.assertEqual(FIVE.stones, ((0, 2), (2, 1), (5, 4), (6, 1), (9, 1)))

    def test_properties_are_not_assigned(self):
        live = LiveRow(FIVE)
        for name in ("standing", "lying", "history"):
            with self.assertRaises(AttributeError):
                setattr(live, name, [])


if __name__ == "__main__":
    unittest.main()
