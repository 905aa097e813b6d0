"""What pushes fell: points 4 to 7, first_unlike_push of point 9, and point 1."""

import copy
import unittest

from samples import (SIDES, WRONG_SIDES, WRONG_STONES, all_rows, fewest_by_trying, mixed_rows, small_rows,
                     tumble)

from rowdominoes.errors import AlreadyFallen, InvalidSide, OtherRow, UnknownStone
from rowdominoes.rows import Row
from rowdominoes.runs import (fall_ticks, falls_by, fewest_pushes, fewest_to_side, first_unlike_push,
                              greatest_runs, spared_without)

FAR = 10 ** 9
FIVE = Row((0, 2), (2, 1), (5, 4), (6, 1), (9, 1))
CHAIN = Row.even(5, 2, 2)


class ExamplesTest(unittest.TestCase):

    def test_fall_ticks(self):
        row = Row((0, 3), (2, 1), (3, 4), (6, 1))
        self.assertEqual(fall_ticks(row, 0, "right"), {0: 0, 1: 1, 2: 1, 3: 2})
        self.assertEqual(fall_ticks(row, 3, "left"), {3: 0})

    def test_greatest_runs_and_fewest_to_side(self):
        self.assertEqual(greatest_runs(FIVE, "right"), [(0, 1), (2, 4)])
        self.assertEqual(fewest_to_side(FIVE, "right"), [0, 2])
        self.assertEqual(fewest_to_side(FIVE, "left"), [0, 3, 4])

    def test_spared_without(self):
        self.assertEqual(spared_without(CHAIN, 0, "right", 2), [3, 4])
        self.assertEqual(spared_without(CHAIN, 1, "left", 4), [])

    def test_falls_by(self):
        self.assertEqual(list(falls_by(CHAIN, (3, "left"), (4, "right"))), [[0, 1, 2, 3], [4]])
        with self.assertRaises(AlreadyFallen) as caught:
            list(falls_by(CHAIN, (3, "left"), (2, "right")))
        self.assertEqual(caught.exception.index, 1)

    def test_fewest_pushes_and_first_unlike_push(self):
        self.assertEqual(len(fewest_pushes(FIVE)), 2)
        self.assertEqual(first_unlike_push(FIVE, FIVE.with_height(1, 3)), (0, "right"))
        self.assertIsNone(first_unlike_push(FIVE, FIVE.with_height(0, 4)))


class WrongArgumentsTest(unittest.TestCase):

    def test_unknown_stones(self):
        for stone in WRONG_STONES + (5,):
            for side in ("left", "right", "up", None):
                with self.subTest(stone=stone, side=side):
                    with self.assertRaises(UnknownStone):
                        fall_ticks(FIVE, stone, side)
                    with self.assertRaises(UnknownStone):
                        spared_without(FIVE, stone, side, 0)
                    with self.assertRaises(UnknownStone):
                        list(falls_by(FIVE, (stone, side)))
                    with self.assertRaises(UnknownStone):
                        list(falls_by(FIVE, (0, "left"), (stone, side)))

    def test_rows_of_no_stones(self):
        with self.assertRaises(UnknownStone):
            fall_ticks(Row(), 0, "left")
        with self.assertRaises(UnknownStone):
            spared_without(Row(), 0, "left", 0)
        with self.assertRaises(UnknownStone):
            list(falls_by(Row(), (0, "left")))

    def test_wrong_sides(self):
        for side in WRONG_SIDES:
            with self.subTest(side=side):
                with self.assertRaises(InvalidSide):
                    fall_ticks(FIVE, 0, side)
                for row in (FIVE, Row()):
                    with self.assertRaises(InvalidSide):
                        greatest_runs(row, side)
                    with self.assertRaises(InvalidSide):
                        fewest_to_side(row, side)
                with self.assertRaises(InvalidSide):
                    list(falls_by(FIVE, (0, side)))

    def test_wrong_side_ahead_of_a_wrong_other_stone(self):
        for other in (0, 5, None):
            with self.assertRaises(InvalidSide):
                spared_without(FIVE, 0, "up", other)

    def test_unknown_other_stone(self):
        for other in WRONG_STONES + (5,):
            with self.subTest(other=other), self.assertRaises(UnknownStone):
                spared_without(FIVE, 0, "right", other)

    def test_rows_of_other_lengths(self):
        for other in (Row(), FIVE.without(0), FIVE + Row((20, 1)), None, FIVE.stones):
            with self.assertRaises(OtherRow):
                first_unlike_push(FIVE, other)
        with self.assertRaises(OtherRow):
            first_unlike_push(Row(), FIVE)


class FallTicksTest(unittest.TestCase):

    def test_against_the_reference(self):
        for row in small_rows():
            everywhere = range(len(row))
            for stone in everywhere:
                for side in SIDES:
                    ticks = fall_ticks(row, stone, side)
                    self.assertEqual(ticks, tumble(row.stones, everywhere, stone, side))
                    self.assertEqual(list(ticks), sorted(ticks))

    def test_one_stone(self):
        self.assertEqual(fall_ticks(Row((FAR, FAR)), 0, "left"), {0: 0})

    def test_just_as_far_as_the_height(self):
        self.assertEqual(fall_ticks(Row((0, FAR), (FAR, 1)), 0, "right"), {0: 0, 1: 1})
        self.assertEqual(fall_ticks(Row((0, FAR - 1), (FAR, 1)), 0, "right"), {0: 0})
        self.assertEqual(fall_ticks(Row((0, 1), (4, 3), (8, 4)), 2, "left"), {1: 1, 2: 0})

    def test_forty_stones(self):
        row = Row.even(40, 2, 5)
        self.assertEqual(fall_ticks(row, 39, "left"), {stone: (40 - stone) // 2 for stone in range(40)})

    def test_ascending_order_to_the_left(self):
        self.assertEqual(list(fall_ticks(CHAIN, 4, "left").items()), [(0, 4), (1, 3), (2, 2), (3, 1), (4, 0)])


class GreatestRunsTest(unittest.TestCase):

    def test_small_rows(self):
        for side in SIDES:
            self.assertEqual(greatest_runs(Row(), side), [])
            self.assertEqual(fewest_to_side(Row(), side), [])
            self.assertEqual(greatest_runs(Row((3, 1)), side), [(0, 0)])
            self.assertEqual(fewest_to_side(Row((3, 1)), side), [0])
        self.assertEqual(greatest_runs(Row((3, 2), (5, 1)), "right"), [(0, 1)])
        self.assertEqual(greatest_runs(Row((3, 2), (5, 1)), "left"), [(0, 0), (1, 1)])

    def test_against_the_words(self):
        for row in small_rows():
            for side in SIDES:
                runs = [row(stone, side) for stone in range(len(row))]
                greatest = [run for run in runs if sum(
                    other[0] <= run[0] and run[1] <= other[1] for other in runs) == 1]
                self.assertEqual(greatest_runs(row, side), sorted(greatest))

    def test_fewest_to_side_fells_all_stones(self):
        for row in small_rows():
            for side in SIDES:
                stones = fewest_to_side(row, side)
                self.assertEqual(stones, sorted(stones))
                fallen = [stone for run in falls_by(row, *[(stone, side) for stone in stones]) for stone in run]
                self.assertEqual(sorted(fallen), list(range(len(row))))
                self.assertEqual([row(stone, side) for stone in stones], greatest_runs(row, side))


class SparedWithoutTest(unittest.TestCase):

    def test_against_a_row_without_the_stone(self):
        for row in list(all_rows(3, (1, 2, 3), (1, 2, 3, 5))) + list(mixed_rows(60, 8, 2)):
            everywhere = range(len(row))
            for stone in everywhere:
                for other in everywhere:
                    left = [number for number in everywhere if number != other]
                    for side in SIDES:
                        fallen = tumble(row.stones, everywhere, stone, side)
                        still = {} if stone == other else tumble(row.stones, left, stone, side)
                        spared = [number for number in left if number in fallen and number not in still]
                        self.assertEqual(spared_without(row, stone, side, other), spared)

    def test_without_the_pushed_stone(self):
        self.assertEqual(spared_without(CHAIN, 2, "left", 2), [0, 1])
        self.assertEqual(spared_without(CHAIN, 2, "right", 2), [3, 4])
        self.assertEqual(spared_without(Row((0, 1)), 0, "right", 0), [])

    def test_a_tall_stone_needs_no_other(self):
        self.assertEqual(spared_without(Row((0, 4), (2, 2), (4, 1)), 0, "right", 1), [])
        self.assertEqual(spared_without(Row((0, 3), (2, 2), (4, 1)), 0, "right", 1), [2])


class FallsByTest(unittest.TestCase):

    def test_no_pushes(self):
        self.assertEqual(list(falls_by(FIVE)), [])
        self.assertEqual(list(falls_by(Row())), [])

    def test_against_the_reference(self):
        for row in small_rows():
            standing = list(range(len(row)))
            pushes = []
            expected = []
            while standing:
                number = len(pushes) + row.stones[standing[0]][1]
                push = (standing[number * 7 // 3 % len(standing)], SIDES[number % 2])
                fallen = tumble(row.stones, standing, *push)
                standing = [stone for stone in standing if stone not in fallen]
                pushes.append(push)
                expected.append(sorted(fallen))
            self.assertEqual(list(falls_by(row, *pushes)), expected)

    def test_a_push_that_comes_to_a_stone_that_lies(self):
        self.assertEqual(list(falls_by(CHAIN, (2, "right"), (0, "right"))), [[2, 3, 4], [0, 1]])
        self.assertEqual(list(falls_by(CHAIN, (1, "left"), (4, "left"))), [[0, 1], [2, 3, 4]])

    def test_stones_fall_over_those_that_lie(self):
        row = Row((0, 4), (2, 1), (4, 1), (5, 1))
        self.assertEqual(list(falls_by(row, (1, "right"), (0, "right"))), [[1], [0, 2, 3]])
        self.assertEqual(list(falls_by(~row, (2, "left"), (3, "left"))), [[2], [0, 1, 3]])

    def test_a_stone_that_lies_hits_nothing(self):
        row = Row((0, 2), (1, 9), (2, 1), (5, 1))
        self.assertEqual(list(falls_by(row, (1, "left"), (2, "left"))), [[0, 1], [2]])
        self.assertEqual(list(falls_by(Row((0, 3), (1, 9), (4, 1)), (1, "left"), (2, "left"))), [[0, 1], [2]])
        row = Row((0, 3), (2, 9), (3, 1), (9, 1))
        self.assertEqual(list(falls_by(row, (3, "left"), (1, "left"), (2, "right"))), [[3], [0, 1], [2]])
        row = Row((5, 2), (6, 9), (7, 1), (9, 1))
        self.assertEqual(list(falls_by(row, (1, "right"), (0, "right"))), [[1, 2, 3], [0]])

    def test_fallen_stone(self):
        for pushes, index in ((((0, "left"), (0, "left")), 1), (((1, "left"), (4, "left"), (2, "right")), 2)):
            with self.assertRaises(AlreadyFallen) as caught:
                list(falls_by(CHAIN, *pushes))
            self.assertEqual(caught.exception.index, index)

    def test_side_is_checked_ahead_of_the_fall(self):
        with self.assertRaises(InvalidSide):
            list(falls_by(CHAIN, (0, "right"), (0, "up")))

    def test_earlier_values_are_yielded_ahead_of_an_error(self):
        for push, error in (((5, "left"), UnknownStone), ((True, "up"), UnknownStone), ((4, "up"), InvalidSide),
                            ((0, "left"), AlreadyFallen)):
            falls = falls_by(CHAIN, (1, "left"), (2, "left"), push, (3, "left"))
            self.assertEqual([next(falls), next(falls)], [[0, 1], [2]])
            with self.subTest(push=push), self.assertRaises(error):
                next(falls)

    def test_nothing_is_checked_ahead_of_the_first_value(self):
        falls = falls_by(CHAIN, (9, "up"))
        with self.assertRaises(UnknownStone):
            next(falls)


class FewestPushesTest(unittest.TestCase):

    def assert_fells_all(self, row, pushes):
        fallen = [stone for run in falls_by(row, *pushes) for stone in run]
        self.assertEqual(sorted(fallen), list(range(len(row))))

    def test_against_a_try_of_all_lists(self):
        rows = [row for count in range(4) for row in all_rows(count, (1, 2, 3), (1, 2, 3))]
        rows += list(all_rows(4, (1, 2, 3), (1, 2, 4))) + list(mixed_rows(120, 7, 3))
        for row in rows:
            pushes = fewest_pushes(row)
            with self.subTest(stones=row.stones):
                self.assert_fells_all(row, pushes)
                self.assertEqual(len(pushes), fewest_by_trying(row))

    def test_kinds(self):
        self.assertEqual(fewest_pushes(Row()), [])
        pushes = fewest_pushes(Row((0, 1), (5, 1)))
        self.assertIs(type(pushes), list)
        self.assertEqual(sorted((type(push), push[0]) for push in pushes), [(tuple, 0), (tuple, 1)])

    def test_longer_rows(self):
        self.assertEqual(len(fewest_pushes(Row.even(40, 5, 5))), 1)
        self.assertEqual(len(fewest_pushes(Row.even(40, 5, 4))), 40)
        for row in mixed_rows(60, 30, 4):
            self.assert_fells_all(row, fewest_pushes(row))

    def test_an_order_that_can_be_made(self):
        # The push of stone 0 fells stone 2 as well, if it is made first.
        row = Row((0, 2), (1, 1), (2, 9), (12, 1), (20, 9), (21, 1))
        self.assert_fells_all(row, fewest_pushes(row))


class FirstUnlikePushTest(unittest.TestCase):

    def test_rows_alike(self):
        self.assertIsNone(first_unlike_push(Row(), Row()))
        self.assertIsNone(first_unlike_push(FIVE, FIVE))
        self.assertIsNone(first_unlike_push(Row((0, 1)), Row((9, 7))))
        self.assertIsNone(first_unlike_push(FIVE, FIVE >> 4))

    def test_left_ahead_of_right(self):
        self.assertEqual(first_unlike_push(Row((0, 1), (4, 1), (8, 1)), Row.even(3, 4, 4)), (0, "right"))
        self.assertEqual(first_unlike_push(Row((0, 1), (4, 1), (8, 1)), Row((0, 1), (4, 4), (8, 1))), (1, "left"))
        self.assertEqual(first_unlike_push(Row((0, 1), (4, 1), (5, 1)), Row((0, 1), (4, 1), (6, 1))), (1, "right"))

    def test_against_all_pushes(self):
        rows = list(all_rows(3, (1, 3), (1, 2, 3)))
        for row in rows:
            for other in rows[::5]:
                unlike = [(stone, side) for stone in range(3) for side in SIDES
                          if row(stone, side) != other(stone, side)]
                self.assertEqual(first_unlike_push(row, other), unlike[0] if unlike else None)


class ValuesTest(unittest.TestCase):

    def test_returned_lists_and_dicts_may_be_modified(self):
        calls = (lambda: fall_ticks(CHAIN, 0, "right"), lambda: greatest_runs(CHAIN, "left"),
                 lambda: fewest_to_side(CHAIN, "left"), lambda: spared_without(CHAIN, 0, "right", 2),
                 lambda: fewest_pushes(CHAIN), lambda: fewest_pushes(Row()))
        for call in calls:
            found = call()
            before = copy.deepcopy(found)
            found.clear()
            self.assertEqual(call(), before)

    def test_yielded_lists_may_be_modified(self):
        fallen = []
        for run in falls_by(CHAIN, (1, "left"), (4, "left")):
            fallen.append(list(run))
            run.clear()
        self.assertEqual(fallen, [[0, 1], [2, 3, 4]])
        self.assertEqual(list(falls_by(CHAIN, (1, "left"), (4, "left"))), fallen)

    def test_generators_do_not_share_what_has_fallen(self):
        first = falls_by(CHAIN, (0, "right"))
        second = falls_by(CHAIN, (0, "right"))
        self.assertEqual([next(first), next(second)], [[0, 1, 2, 3, 4], [0, 1, 2, 3, 4]])

    def test_rows_are_not_modified(self):
        stones = FIVE.stones
        fall_ticks(FIVE, 0, "right")
        spared_without(FIVE, 2, "right", 3)
        list(falls_by(FIVE, (0, "right"), (2, "left")))
        fewest_pushes(FIVE)
        self.assertEqual(FIVE.stones, stones)
        self.assertEqual(stones, ((0, 2), (2, 1), (5, 4), (6, 1), (9, 1)))


if __name__ == "__main__":
    unittest.main()
