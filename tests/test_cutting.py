"""Stones that are taken away, and heights that change: points 8, 9 and 1."""

import copy
import itertools
import unittest

from samples import SIDES, WRONG_SIDES, WRONG_STONES, all_rows, mixed_rows, small_rows, tumble

from rowdominoes.cutting import fewest_taken, least_height, least_heights, safe_growth
from rowdominoes.errors import InvalidSide, UnknownStone
from rowdominoes.rows import Row
from rowdominoes.runs import first_unlike_push

FAR = 10 ** 9
FIVE = Row((0, 2), (2, 1), (5, 4), (6, 1), (9, 1))
CHAIN = Row.even(5, 2, 2)


def fells(stones, standing, stone, side, goal):
    return goal in tumble(stones, standing, stone, side)


def runs(stones):
    """What all pushes fell, for heights of any size."""
    everywhere = range(len(stones))
    return [sorted(tumble(stones, everywhere, stone, side)) for stone in everywhere for side in SIDES]


def with_height(stones, stone, height):
    return stones[:stone] + ((stones[stone][0], height),) + stones[stone + 1:]


class ExamplesTest(unittest.TestCase):

    def test_fewest_taken(self):
        row = Row((0, 3), (2, 4), (3, 3), (6, 1))
        self.assertEqual(fewest_taken(row, 0, "right", 3), [1, 2])
        self.assertIsNone(fewest_taken(row, 0, "right", 1))
        self.assertEqual(fewest_taken(row, 3, "left", 0), [])

    def test_least_height(self):
        self.assertEqual(least_height(FIVE, 0, "right", 1, 4), 3)
        self.assertEqual(least_height(FIVE, 0, "right", 0, 2), 5)
        self.assertIsNone(least_height(FIVE, 0, "right", 3, 4))

    def test_least_heights_and_safe_growth(self):
        self.assertEqual(least_heights(Row.even(3, 2, 9)), [2, 2, 2])
        self.assertEqual(least_heights(Row((0, 1), (5, 4))), [1, 1])
        self.assertEqual(safe_growth(Row((0, 1), (5, 4)), 1), 0)


class WrongArgumentsTest(unittest.TestCase):

    def test_unknown_pushed_stones(self):
        for stone in WRONG_STONES + (5,):
            for side in ("left", "right", "up", None):
                with self.subTest(stone=stone, side=side):
                    with self.assertRaises(UnknownStone):
                        fewest_taken(FIVE, stone, side, 0)
                    with self.assertRaises(UnknownStone):
                        least_height(FIVE, stone, side, 0, 0)

    def test_wrong_sides_ahead_of_other_stones(self):
        for side in WRONG_SIDES:
            for other in (0, 5, None):
                with self.subTest(side=side, other=other):
                    with self.assertRaises(InvalidSide):
                        fewest_taken(FIVE, 0, side, other)
                    with self.assertRaises(InvalidSide):
                        least_height(FIVE, 0, side, other, other)

    def test_other_unknown_stones(self):
        for stone in WRONG_STONES + (5,):
            with self.subTest(stone=stone):
                with self.assertRaises(UnknownStone):
                    fewest_taken(FIVE, 0, "right", stone)
                with self.assertRaises(UnknownStone):
                    least_height(FIVE, 0, "right", stone, 1)
                with self.assertRaises(UnknownStone):
                    least_height(FIVE, 0, "right", 1, stone)
                with self.assertRaises(UnknownStone):
                    safe_growth(FIVE, stone)

    def test_unknown_stones_even_where_the_push_does_not_come(self):
        with self.assertRaises(UnknownStone):
            fewest_taken(FIVE, 4, "right", 5)
        with self.assertRaises(UnknownStone):
            least_height(FIVE, 4, "right", 4, -1)
        with self.assertRaises(UnknownStone):
            least_height(FIVE, 4, "right", 5, 4)

    def test_rows_of_no_stones(self):
        for call in (lambda: fewest_taken(Row(), 0, "left", 0), lambda: least_height(Row(), 0, "left", 0, 0),
                     lambda: safe_growth(Row(), 0)):
            with self.assertRaises(UnknownStone):
                call()
        self.assertEqual(least_heights(Row()), [])


class FewestTakenTest(unittest.TestCase):

    def assert_fewest(self, row, stone, side, goal):
        """Try all stones to take away, the fewest first."""
        stones = row.stones
        others = [other for other in range(len(stones)) if other not in (stone, goal)]
        found = fewest_taken(row, stone, side, goal)
        for many in range(len(others) + 1):
            ways = [list(taken) for taken in itertools.combinations(others, many)
                    if not fells(stones, [left for left in range(len(stones)) if left not in taken],
                                 stone, side, goal)]
            if ways:
                self.assertIn(found, ways)
                return
        self.assertIsNone(found)

    def test_against_a_try_of_all_stones(self):
        rows = [row for count in range(1, 4) for row in all_rows(count, (1, 2, 3), (1, 2, 3, 5))]
        rows += list(all_rows(4, (1, 2), (1, 2, 4))) + list(mixed_rows(80, 7, 11))
        for row in rows:
            for stone, goal in itertools.product(range(len(row)), repeat=2):
                for side in SIDES:
                    with self.subTest(stones=row.stones, push=(stone, side), goal=goal):
                        self.assert_fewest(row, stone, side, goal)

    def test_which_one_of_several_lists(self):
        for row in mixed_rows(150, 12, 12):
            stones = row.stones
            for stone in range(len(row)):
                first, last = row(stone, "right")
                for goal in range(first + 1, last + 1):
                    lists = []
                    for spared in range(stone + 1, goal + 1):
                        reaching = [other for other in range(stone, spared)
                                    if stones[other][0] + stones[other][1] >= stones[spared][0]]
                        if stone not in reaching:
                            lists.append(reaching)
                    expected = sorted(lists, key=len)[0] if lists else None
                    self.assertEqual(fewest_taken(row, stone, "right", goal), expected)
                    back = len(row) - 1
                    mirrored = None if expected is None else [back - other for other in expected[::-1]]
                    self.assertEqual(fewest_taken(~row, back - stone, "left", back - goal), mirrored)

    def test_nearest_of_several_lists(self):
        row = Row.even(5, 2, 2)
        self.assertEqual(fewest_taken(row, 0, "right", 4), [1])
        self.assertEqual(fewest_taken(row, 4, "left", 0), [3])
        self.assertEqual(fewest_taken(Row.even(6, 2, 4), 0, "right", 5), [1, 2])

    def test_a_farther_list_that_is_shorter(self):
        row = Row((0, 2), (1, 3), (2, 2), (4, 2), (6, 1))
        self.assertEqual(fewest_taken(row, 0, "right", 3), [1, 2])
        self.assertEqual(fewest_taken(row, 0, "right", 4), [3])

    def test_the_goal_itself_and_the_pushed_stone_stay(self):
        self.assertIsNone(fewest_taken(Row((0, 3), (1, 1), (3, 1)), 0, "right", 2))
        self.assertIsNone(fewest_taken(Row((0, 1), (1, 1)), 1, "left", 0))
        for side in SIDES:
            self.assertIsNone(fewest_taken(CHAIN, 2, side, 2))

    def test_nothing_to_take(self):
        self.assertEqual(fewest_taken(CHAIN, 2, "right", 1), [])
        self.assertEqual(fewest_taken(CHAIN, 2, "left", 3), [])
        self.assertEqual(fewest_taken(FIVE, 0, "right", 2), [])

    def test_forty_stones(self):
        self.assertEqual(fewest_taken(Row.even(40, 1, 20), 0, "right", 39), list(range(1, 21)))
        self.assertEqual(fewest_taken(Row.even(40, 1, 20), 39, "left", 0), list(range(19, 39)))


class LeastHeightTest(unittest.TestCase):

    def test_against_a_try_of_all_heights(self):
        rows = list(all_rows(3, (1, 2, 3), (1, 2, 5))) + list(mixed_rows(25, 6, 13))
        for row in rows:
            everywhere = range(len(row))
            for stone, changed, goal in itertools.product(everywhere, repeat=3):
                for side in SIDES:
                    heights = [height for height in range(1, 30) if fells(
                        with_height(row.stones, changed, height), everywhere, stone, side, goal)]
                    expected = heights[0] if heights else None
                    self.assertEqual(least_height(row, stone, side, changed, goal), expected)

    def test_a_height_that_does_not_matter(self):
        self.assertEqual(least_height(CHAIN, 0, "right", 0, 0), 1)
        self.assertEqual(least_height(CHAIN, 2, "left", 4, 2), 1)
        self.assertEqual(least_height(CHAIN, 0, "right", 3, 3), 1)
        self.assertEqual(least_height(Row((0, 9), (1, 7), (9, 1)), 0, "right", 1, 2), 1)

    def test_a_goal_on_the_other_side(self):
        self.assertIsNone(least_height(CHAIN, 2, "right", 2, 1))
        self.assertIsNone(least_height(CHAIN, 2, "left", 2, 3))

    def test_limits(self):
        self.assertEqual(least_height(Row((0, 1), (FAR, 1)), 0, "right", 0, 1), FAR)
        self.assertEqual(least_height(Row((0, FAR), (FAR, FAR)), 1, "left", 1, 0), FAR)
        self.assertEqual(least_height(Row((0, 9), (1, 9)), 0, "right", 0, 1), 1)

    def test_shorter_than_it_is(self):
        self.assertEqual(least_height(Row((0, 9), (3, 9), (7, 1)), 0, "right", 0, 2), 3)
        self.assertEqual(least_height(Row((0, 9), (3, 2), (7, 1)), 0, "right", 0, 2), 7)


class LeastHeightsTest(unittest.TestCase):

    def test_against_a_try_of_all_lists_of_heights(self):
        rows = [row for count in range(1, 4) for row in all_rows(count, (1, 2), (1, 2, 4))]
        rows += [Row((0, 3), (1, 1), (2, 4), (5, 2)), Row((0, 1), (2, 2), (3, 5), (4, 1))]
        for row in rows:
            ways = []
            for heights in itertools.product(range(1, 6), repeat=len(row)):
                if runs(tuple(zip(row.places, heights))) == runs(row.stones):
                    ways.append(heights)
            with self.subTest(stones=row.stones):
                self.assertEqual(least_heights(row), [min(tall) for tall in zip(*ways)])
                self.assertIn(tuple(least_heights(row)), ways)

    def test_none_can_be_less(self):
        for row in small_rows():
            lower = tuple(zip(row.places, least_heights(row)))
            self.assertEqual(runs(lower), runs(row.stones))
            for stone, (_, height) in enumerate(lower):
                if height > 1:
                    self.assertNotEqual(runs(with_height(lower, stone, height - 1)), runs(lower))

    def test_both_sides_count(self):
        self.assertEqual(least_heights(Row((0, 1), (3, 9), (7, 1))), [1, 4, 1])
        self.assertEqual(least_heights(Row((0, 1), (4, 9), (7, 1))), [1, 4, 1])
        self.assertEqual(least_heights(Row((0, 9), (1, 2), (3, 9), (9, 1))), [1, 2, 6, 1])

    def test_limits(self):
        self.assertEqual(least_heights(Row((0, FAR), (FAR, FAR))), [FAR, FAR])
        self.assertEqual(least_heights(Row((0, FAR - 1), (FAR, FAR - 1))), [1, 1])
        self.assertEqual(least_heights(Row((5, FAR))), [1])
        self.assertEqual(least_heights(Row.even(40, 3, FAR)), [3] * 40)

    def test_first_unlike_push_finds_none(self):
        for row in mixed_rows(40, 12, 14):
            lower = Row(*zip(row.places, least_heights(row)))
            self.assertIsNone(first_unlike_push(row, lower))


class SafeGrowthTest(unittest.TestCase):

    def own_runs(self, stones, stone):
        everywhere = range(len(stones))
        return [sorted(tumble(stones, everywhere, stone, side)) for side in SIDES]

    def test_against_the_words(self):
        for row in small_rows():
            stones = row.stones
            for stone, (_, height) in enumerate(stones):
                growth = safe_growth(row, stone)
                own = self.own_runs(stones, stone)
                grown = self.own_runs(with_height(stones, stone, height + growth), stone)
                self.assertEqual(grown, own)
                if growth < FAR:
                    grown = self.own_runs(with_height(stones, stone, height + growth + 1), stone)
                    self.assertNotEqual(grown, own)

    def test_nothing_else_to_reach(self):
        for row in (Row((7, 1)), Row((0, FAR)), Row.even(2, 3, 3), Row.even(40, 2, 2)):
            for stone in range(len(row)):
                self.assertEqual(safe_growth(row, stone), FAR)

    def test_the_nearer_one_counts(self):
        self.assertEqual(safe_growth(Row((0, 1), (4, 1), (9, 1)), 1), 2)
        self.assertEqual(safe_growth(Row((0, 1), (6, 1), (9, 1)), 1), 1)
        self.assertEqual(safe_growth(Row((0, 1), (3, 3), (9, 1)), 1), 2)

    def test_limits(self):
        self.assertEqual(safe_growth(Row((0, 1), (FAR, 1)), 0), FAR - 2)
        self.assertEqual(safe_growth(Row((0, FAR - 1), (FAR, 1)), 0), 0)
        self.assertEqual(safe_growth(Row((0, 1), (FAR - 1, 1), (FAR, 1)), 2), FAR - 2)


class ValuesTest(unittest.TestCase):

    def test_returned_lists_may_be_modified(self):
        calls = (lambda: fewest_taken(CHAIN, 0, "right", 4), lambda: fewest_taken(CHAIN, 0, "left", 4),
                 lambda: least_heights(CHAIN), lambda: least_heights(Row()))
        for call in calls:
            found = call()
            before = copy.deepcopy(found)
            self.assertIs(type(found), list)
            found.append(99)
            self.assertEqual(call(), before)

    def test_rows_are_not_modified(self):
        stones = FIVE.stones
        for goal in range(5):
            fewest_taken(FIVE, 0, "right", goal)
            least_height(FIVE, 0, "right", 1, goal)
            safe_growth(FIVE, goal)
        least_heights(FIVE)
        self.assertEqual(FIVE.stones, stones)


if __name__ == "__main__":
    unittest.main()
