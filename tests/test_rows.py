"""Rows of stones and single pushes: points 1 to 4."""

import unittest

from samples import SIDES, WRONG_KINDS, WRONG_SIDES, WRONG_STONES, mixed_rows, small_rows, tumble

from rowdominoes.errors import InvalidNumber, InvalidRow, InvalidSide, UnknownStone
from rowdominoes.rows import Row

FAR = 10 ** 9
FIVE = ((0, 2), (2, 1), (5, 4), (6, 1), (9, 1))


class RowCase(unittest.TestCase):

    def assert_invalid_row(self, index, made, *arguments):
        with self.assertRaises(InvalidRow) as caught:
            made(*arguments)
        self.assertEqual(caught.exception.index, index)


class ExamplesTest(RowCase):

    def test_signs(self):
        row = Row((0, 2), (2, 1)) + Row((5, 4),)
        self.assertEqual(row.stones, ((0, 2), (2, 1), (5, 4)))
        self.assertEqual((~row).stones, ((0, 4), (3, 1), (5, 2)))
        self.assertEqual((row >> 3).places, (3, 5, 8))
        self.assertEqual(row[1], (2, 1))
        self.assertIs(5 in row, True)
        self.assertIs(row.without(1) == Row((0, 2), (5, 4)), True)

    def test_equal_places(self):
        self.assert_invalid_row(1, Row, (3, 1), (3, 2))

    def test_even(self):
        self.assertEqual(Row.even(3, 2, 2).stones, ((0, 2), (2, 2), (4, 2)))

    def test_pushes(self):
        row = Row(*FIVE)
        pushes = [row(0, "right"), row(2, "right"), row(4, "left"), row(3, "left")]
        self.assertEqual(pushes, [(0, 1), (2, 4), (4, 4), (1, 3)])

    def test_push_of_an_unknown_stone(self):
        with self.assertRaises(UnknownStone):
            Row(*FIVE)(5, "right")


class MakingTest(RowCase):

    def test_stones_and_places(self):
        for stones in ((), ((4, 2),), ((0, 1), (1, 1)), FIVE):
            row = Row(*stones)
            self.assertEqual(row.stones, stones)
            self.assertEqual(row.places, tuple(place for place, _ in stones))
            self.assertIs(type(row.stones), tuple)
            self.assertIs(type(row.places), tuple)

    def test_limits_of_places_and_heights(self):
        stones = ((0, 1), (1, FAR), (FAR - 1, 1), (FAR, FAR))
        self.assertEqual(Row(*stones).stones, stones)
        for wrong in ((-1, 1), (FAR + 1, 1), (0, 0), (0, -1), (0, FAR + 1)):
            self.assert_invalid_row(0, Row, wrong)

    def test_equal_and_falling_places(self):
        self.assert_invalid_row(2, Row, (3, 1), (4, 1), (4, 1))
        self.assert_invalid_row(2, Row, (3, 1), (5, 1), (4, 1), (9, 1))
        self.assert_invalid_row(1, Row, (0, 1), (0, 1))
        self.assert_invalid_row(1, Row, (FAR, 1), (0, 1))

    def test_wrong_stones(self):
        wrong = [5, -1, True, None, "", "ab", [], [0, 1], (), (0,), (0, 1, 1), ((0, 1), (2, 1)), ([], [])]
        wrong += [(kind, 1) for kind in WRONG_KINDS] + [(0, kind) for kind in WRONG_KINDS]
        for stone in wrong:
            with self.subTest(stone=stone):
                self.assert_invalid_row(0, Row, stone)
                self.assert_invalid_row(0, Row, stone, (1, 1))

    def test_first_wrong_argument_counts(self):
        self.assert_invalid_row(1, Row, (0, 1), (5,), (5, 0), (4, 1))
        self.assert_invalid_row(2, Row, (0, 1), (7, 1), (7, 1), None)
        self.assert_invalid_row(1, Row, (0, 1), True, *[(place, 1) for place in range(2, 50)])

    def test_forty_stones(self):
        stones = [(place, 1) for place in range(60)]
        self.assertEqual(Row.MAX_STONES, 40)
        self.assertEqual(Row(*stones[:40]).stones, tuple(stones[:40]))
        self.assert_invalid_row(40, Row, *stones[:41])
        self.assert_invalid_row(40, Row, *stones)
        self.assert_invalid_row(40, Row, *stones[:40], None)
        self.assert_invalid_row(39, Row, *stones[:39], None, None)

    def test_rows_do_not_change(self):
        row = Row(*FIVE)
        results = [row >> 1, ~row, row + Row((20, 1)), row.without(0), row.with_height(0, 9), row(0, "right")]
        self.assertEqual(len(results), 6)
        self.assertEqual(row.stones, FIVE)
        with self.assertRaises(AttributeError):
            row.stones = ()
        with self.assertRaises(AttributeError):
            row.places = ()
        with self.assertRaises(TypeError):
            row[0] = (0, 1)


class EvenTest(RowCase):

    def test_ordinary(self):
        self.assertEqual(Row.even(1, 7, 3), Row((0, 3)))
        self.assertEqual(Row.even(2, 7, 3), Row((0, 3), (7, 3)))
        self.assertEqual(Row.even(40, 1, FAR).places, tuple(range(40)))

    def test_limits(self):
        self.assertEqual(Row.even(2, FAR, FAR).stones, ((0, FAR), (FAR, FAR)))
        self.assertEqual(Row.even(1, FAR, 1).stones, ((0, 1),))

    def test_places_beyond_the_last_one(self):
        self.assert_invalid_row(2, Row.even, 3, FAR, 1)
        self.assert_invalid_row(2, Row.even, 40, FAR // 2 + 1, 1)
        self.assert_invalid_row(39, Row.even, 40, FAR // 39 + 1, 1)
        self.assertEqual(len(Row.even(40, FAR // 39, 1)), 40)

    def test_wrong_numbers(self):
        for count in (0, -1, 41, FAR) + WRONG_KINDS:
            with self.subTest(count=count), self.assertRaises(InvalidNumber):
                Row.even(count, 1, 1)
        for number in (0, -1, FAR + 1) + WRONG_KINDS:
            with self.subTest(number=number):
                with self.assertRaises(InvalidNumber):
                    Row.even(1, number, 1)
                with self.assertRaises(InvalidNumber):
                    Row.even(1, 1, number)

    def test_wrong_numbers_ahead_of_wrong_places(self):
        with self.assertRaises(InvalidNumber):
            Row.even(3, FAR, 0)
        with self.assertRaises(InvalidNumber):
            Row.even(41, FAR, 1)


class SignsTest(RowCase):

    def test_length(self):
        for count in (0, 1, 2, 40):
            self.assertEqual(len(Row(*[(place, 1) for place in range(count)])), count)

    def test_stone(self):
        row = Row(*FIVE)
        self.assertEqual([row[stone] for stone in range(5)], list(FIVE))

    def test_unknown_stones(self):
        for stone in WRONG_STONES + (5, slice(0, 1)):
            with self.subTest(stone=stone), self.assertRaises(UnknownStone):
                Row(*FIVE)[stone]
        with self.assertRaises(UnknownStone):
            Row()[0]

    def test_place(self):
        row = Row((0, 1), (1, 1), (FAR, 1))
        for place in (0, 1, FAR):
            self.assertIs(place in row, True)
        for place in (-1, 2, FAR - 1, FAR + 1, -FAR):
            self.assertIs(place in row, False)
        for place in WRONG_KINDS + ((0, 1), (1, 1), "0"):
            self.assertIs(place in row, False)
        self.assertIs(0 in Row(), False)

    def test_both_rows(self):
        self.assertEqual(Row() + Row(), Row())
        self.assertEqual(Row() + Row(*FIVE), Row(*FIVE))
        self.assertEqual(Row(*FIVE) + Row(), Row(*FIVE))
        self.assertEqual((Row((0, 2), (3, 1)) + Row((4, 1), (9, 9))).stones, ((0, 2), (3, 1), (4, 1), (9, 9)))

    def test_both_rows_with_wrong_places(self):
        def both(row, other):
            return row + other

        self.assert_invalid_row(2, both, Row((0, 1), (3, 1)), Row((3, 1), (4, 1)))
        self.assert_invalid_row(1, both, Row((3, 1)), Row((0, 1)))
        self.assert_invalid_row(5, both, Row(*FIVE), Row(*FIVE))

    def test_both_rows_with_a_stone_too_many(self):
        row = Row.even(39, 1, 1)
        self.assertEqual(len(row + Row((50, 1))), 40)
        with self.assertRaises(InvalidRow) as caught:
            row + Row((50, 1), (51, 1))
        self.assertEqual(caught.exception.index, 40)
        with self.assertRaises(InvalidRow) as caught:
            Row.even(40, 1, 1) + Row((50, 1))
        self.assertEqual(caught.exception.index, 40)

    def test_shift(self):
        row = Row((3, 2), (5, 7))
        self.assertEqual((row >> 4).stones, ((7, 2), (9, 7)))
        self.assertEqual((row >> 0), row)
        self.assertEqual((row >> -3).stones, ((0, 2), (2, 7)))
        self.assertEqual(Row((0, 5)) >> FAR, Row((FAR, 5)))
        self.assertEqual(Row((FAR, 5)) >> -FAR, Row((0, 5)))
        self.assertEqual((Row() >> FAR) + (Row() >> -FAR), Row())

    def test_shift_too_far(self):
        def shifted(row, distance):
            return row >> distance

        self.assert_invalid_row(0, shifted, Row((3, 2), (5, 7)), -4)
        self.assert_invalid_row(0, shifted, Row((3, 2), (5, 7)), FAR)
        self.assert_invalid_row(1, shifted, Row((3, 2), (5, 7)), FAR - 4)
        self.assert_invalid_row(0, shifted, Row((3, 2), (5, 7)), -FAR)

    def test_wrong_distances(self):
        for distance in (FAR + 1, -FAR - 1) + WRONG_KINDS:
            for row in (Row(), Row(*FIVE)):
                with self.subTest(distance=distance), self.assertRaises(InvalidNumber):
                    row >> distance

    def test_exchange_of_left_and_right(self):
        self.assertEqual(~Row(), Row())
        self.assertEqual(~Row((7, 3)), Row((7, 3)))
        self.assertEqual(~Row((7, 3), (9, 5)), Row((7, 5), (9, 3)))
        self.assertEqual(~Row((7, 3), (9, 5), (20, 1)), Row((7, 1), (18, 5), (20, 3)))
        self.assertEqual(~Row((0, 1), (1, 2), (FAR, 3)), Row((0, 3), (FAR - 1, 2), (FAR, 1)))

    def test_exchange_twice(self):
        for row in mixed_rows(50, 9, 1):
            self.assertEqual(~~row, row)

    def test_equality(self):
        row = Row(*FIVE)
        self.assertIs(row == Row(*FIVE), True)
        self.assertIs(row != Row(*FIVE), False)
        self.assertIs(Row() == Row(), True)
        for other in (Row(*FIVE[:4]), row >> 1, row.with_height(4, 2), Row()):
            self.assertIs(row == other, False)
            self.assertIs(row != other, True)

    def test_equality_with_other_things(self):
        for other in (FIVE, list(FIVE), None, True, 0, 5, "", [], ()):
            self.assertIs(Row(*FIVE) == other, False)
            self.assertIs(Row() == other, False)
            self.assertIs(other == Row(), False)

    def test_rows_cannot_be_walked(self):
        for row in (Row(), Row((0, 1)), Row(*FIVE)):
            with self.assertRaises(TypeError):
                for _ in row:
                    pass
            for walk in (iter, list, tuple, sorted, enumerate, zip):
                with self.subTest(walk=walk), self.assertRaises(TypeError):
                    walk(row)


class ChangedRowsTest(RowCase):

    def test_without(self):
        row = Row(*FIVE)
        self.assertEqual(row.without(), row)
        self.assertEqual(row.without(0).stones, FIVE[1:])
        self.assertEqual(row.without(4, 1).stones, (FIVE[0], FIVE[2], FIVE[3]))
        self.assertEqual(row.without(2, 2).stones, FIVE[:2] + FIVE[3:])
        self.assertEqual(row.without(3, 0, 1, 4, 2), Row())
        self.assertEqual(Row().without(), Row())

    def test_without_unknown_stones(self):
        for stone in WRONG_STONES + (5,):
            with self.subTest(stone=stone):
                with self.assertRaises(UnknownStone):
                    Row(*FIVE).without(stone)
                with self.assertRaises(UnknownStone):
                    Row(*FIVE).without(1, stone)
        with self.assertRaises(UnknownStone):
            Row().without(0)

    def test_with_height(self):
        row = Row(*FIVE)
        self.assertEqual(row.with_height(0, 9).stones, ((0, 9),) + FIVE[1:])
        self.assertEqual(row.with_height(4, FAR).stones, FIVE[:4] + ((9, FAR),))
        self.assertEqual(row.with_height(2, 1).stones, FIVE[:2] + ((5, 1),) + FIVE[3:])
        self.assertEqual(row.with_height(2, 4), row)

    def test_with_height_of_unknown_stones(self):
        for stone in WRONG_STONES + (5,):
            for height in (1, 0, None):
                with self.subTest(stone=stone), self.assertRaises(UnknownStone):
                    Row(*FIVE).with_height(stone, height)

    def test_with_wrong_heights(self):
        for height in (0, -1, FAR + 1) + WRONG_KINDS:
            with self.subTest(height=height), self.assertRaises(InvalidNumber):
                Row(*FIVE).with_height(0, height)


class PushTest(RowCase):

    def test_against_the_reference(self):
        for row in small_rows():
            everywhere = range(len(row))
            for stone in everywhere:
                for side in SIDES:
                    fallen = sorted(tumble(row.stones, everywhere, stone, side))
                    self.assertEqual(row(stone, side), (fallen[0], fallen[-1]))
                    self.assertEqual(fallen, list(range(fallen[0], fallen[-1] + 1)))

    def test_just_as_far_as_the_height(self):
        row = Row((0, 4), (4, 4))
        self.assertEqual([row(0, "right"), row(1, "left")], [(0, 1), (0, 1)])
        row = Row((0, 4), (5, 4))
        self.assertEqual([row(0, "right"), row(1, "left")], [(0, 0), (1, 1)])
        row = Row((0, FAR), (FAR, FAR - 1))
        self.assertEqual([row(0, "right"), row(1, "left")], [(0, 1), (1, 1)])

    def test_a_tall_stone_reaches_over_small_ones(self):
        row = Row((0, 9), (1, 1), (5, 1), (9, 1), (10, 1), (12, 1))
        self.assertEqual([row(0, "right"), row(1, "right"), row(5, "left")], [(0, 4), (1, 1), (5, 5)])

    def test_forty_stones(self):
        row = Row.even(40, 3, 3)
        self.assertEqual([row(0, "right"), row(39, "left"), row(17, "left")], [(0, 39), (0, 39), (0, 17)])

    def test_unknown_stones(self):
        for stone in WRONG_STONES + (5,):
            for side in ("left", "right", "up", None):
                with self.subTest(stone=stone, side=side), self.assertRaises(UnknownStone):
                    Row(*FIVE)(stone, side)
        with self.assertRaises(UnknownStone):
            Row()(0, "left")

    def test_wrong_sides(self):
        for side in WRONG_SIDES:
            with self.subTest(side=side), self.assertRaises(InvalidSide):
                Row(*FIVE)(0, side)


if __name__ == "__main__":
    unittest.main()
