"""Texts of rows, and charts of pushes: points 15 and 1."""

import itertools
import random
import unittest

from samples import WRONG_KINDS, WRONG_SIDES, WRONG_STONES, all_pushes, mixed_rows, small_rows, tumble

from rowdominoes.errors import InvalidRow, InvalidSide, NotationError, UnknownStone
from rowdominoes.notation import chart, format_row, parse_row
from rowdominoes.rows import Row

FAR = 10 ** 9
FIVE = Row((0, 2), (2, 1), (5, 4), (6, 1), (9, 1))
LONGEST = Row.even(40, 1, 1)
RIGHT_NUMBERS = ("0", "1", "9", "10", "100", "999999999", "1000000000", "1000000001", "9999999999")
# No notation of a number; none of them holds a space or a line feed.
WRONG_NUMBERS = ("", "00", "01", "02", "007", "0000000001", "01000000000", "10000000000", "99999999999", "1" * 5000,
                 "-1", "-0", "+1", "1_000", "1,000", "1.0", "1e9", "0x1", "0b1", "a", "1a", "a1", "stone", "None",
                 "True", "\t1", "1\t", "1\r", "1\x0b", "1\x0c", "1\x1c", "1\x85", "1\xa0", "1\u2028", "\ufeff1",
                 "\u0661", "\u00b2", "\uff11", "1\u0662", "\u2460", "\u0967")
WRONG_FIRST_WORDS = ("", "Stone", "STONE", "stones", "ston", "stone:", "stone\t0", "\tstone", "\ufeffstone", "0", "row")


class NotationCase(unittest.TestCase):

    def assert_wrong(self, text, line, word):
        with self.subTest(text=text):
            with self.assertRaises(NotationError) as caught:
                parse_row(text)
            self.assertEqual((caught.exception.line, caught.exception.word), (line, word))

    def assert_invalid_row(self, text, index):
        with self.subTest(text=text):
            with self.assertRaises(InvalidRow) as caught:
                parse_row(text)
            self.assertEqual(caught.exception.index, index)


class ExamplesTest(NotationCase):

    def test_format_row(self):
        self.assertEqual(format_row(Row((0, 2), (2, 1))), "stone 0 2\nstone 2 1")

    def test_parse_row(self):
        self.assertEqual(parse_row("stone 0 2\nstone 2 1").stones, ((0, 2), (2, 1)))
        self.assert_wrong("stone 0 2\nstone 02 1", 1, 1)

    def test_chart(self):
        text = " 0             0             2   -\n 1             2             1   0"
        self.assertEqual(chart(Row((0, 2), (2, 1)), 1, "right"), text)


class FormatRowTest(NotationCase):

    def test_lines(self):
        self.assertEqual(format_row(Row((7, 3))), "stone 7 3")
        self.assertEqual(format_row(FIVE), "stone 0 2\nstone 2 1\nstone 5 4\nstone 6 1\nstone 9 1")
        self.assertEqual(format_row(Row((0, 1), (FAR, FAR))), "stone 0 1\nstone 1000000000 1000000000")

    def test_row_without_stones(self):
        self.assertEqual(format_row(Row()), "")
        self.assertEqual(parse_row("").stones, ())

    def test_there_and_back(self):
        rows = list(small_rows()) + [LONGEST, LONGEST >> FAR - 39, Row((FAR, FAR))]
        for row in rows:
            text = format_row(row)
            self.assertEqual(parse_row(text), row)
            self.assertEqual(format_row(parse_row(text)), text)
            self.assertEqual(len(text.split("\n")), max(1, len(row)))

    def test_kinds_of_values(self):
        self.assertIsInstance(format_row(FIVE), str)
        row = parse_row("stone 0 2")
        self.assertIsInstance(row, Row)
        self.assertEqual([type(value) for value in row[0]], [int, int])


class WrongWordsTest(NotationCase):

    def assert_wrong_everywhere(self, wrong_line, word):
        """The line is wrong alone, and ahead of, between and behind other ones."""
        self.assert_wrong(wrong_line, 0, word)
        self.assert_wrong(f"{wrong_line}\nstone 9 1", 0, word)
        self.assert_wrong(f"stone 0 1\n{wrong_line}", 1, word)
        self.assert_wrong(f"stone 0 1\nstone 1 1\n{wrong_line}\nstone 9 1", 2, word)

    def test_first_words(self):
        for first in WRONG_FIRST_WORDS:
            self.assert_wrong_everywhere(f"{first} 5 1", 0)

    def test_places_and_heights(self):
        for wrong in WRONG_NUMBERS:
            self.assert_wrong_everywhere(f"stone {wrong} 1", 1)
            self.assert_wrong_everywhere(f"stone 5 {wrong}", 2)

    def test_the_first_wrong_word(self):
        for wrong in ("", "01", "x"):
            self.assert_wrong_everywhere(f"row {wrong} {wrong}", 0)
            self.assert_wrong_everywhere(f"stone {wrong} {wrong}", 1)
            self.assert_wrong_everywhere(f"stone {wrong} 1 1", 1)
            self.assert_wrong_everywhere(f"stone 5 {wrong} {wrong} {wrong}", 2)
            self.assert_wrong_everywhere(f"stone {wrong}", 1)
            self.assert_wrong_everywhere(f"row {wrong}", 0)

    def test_missing_words(self):
        self.assert_wrong_everywhere("stone", 1)
        self.assert_wrong_everywhere("stone 5", 2)

    def test_superfluous_words(self):
        for more in ("1", "stone", "x", "", "1 1", " ", "stone 6 1"):
            self.assert_wrong_everywhere(f"stone 5 1 {more}", 3)

    def test_empty_words(self):
        for line, word in ((" stone 5 1", 0), ("stone  5 1", 1), ("stone 5  1", 2), ("stone 5 1 ", 3),
                           ("stone ", 1), ("stone 5 ", 2), ("stone  ", 1), (" ", 0), ("  ", 0), (" stone", 0)):
            self.assert_wrong_everywhere(line, word)

    def test_empty_lines(self):
        self.assert_wrong("\n", 0, 0)
        self.assert_wrong("\n\n", 0, 0)
        self.assert_wrong("stone 0 1\n", 1, 0)
        self.assert_wrong("\nstone 0 1", 0, 0)
        self.assert_wrong("stone 0 1\n\nstone 1 1", 1, 0)
        self.assert_wrong("stone 0 1\nstone 1 1\n\n", 2, 0)

    def test_other_signs_between_lines_and_words(self):
        self.assert_wrong("stone 0 1\r\nstone 1 1", 0, 2)
        self.assert_wrong("stone 0 1\rstone 1 1", 0, 2)
        self.assert_wrong("stone 0 1\x0cstone 1 1", 0, 2)
        self.assert_wrong("stone\t0 1", 0, 0)
        self.assert_wrong("stone 0\t1", 0, 1)
        self.assert_wrong("stone\xa00 1", 0, 0)

    def test_the_first_wrong_line(self):
        self.assert_wrong("stone 0 1\nstone 1\nrow 2 1\nstone 03 1", 1, 2)
        self.assert_wrong("stone 0 1 1\nstone", 0, 3)

    def test_other_kinds(self):
        for wrong in WRONG_KINDS + (0, b"stone 0 1", ["stone 0 1"]):
            if wrong != "" and wrong != "1":
                self.assert_wrong(wrong, 0, 0)
        self.assert_wrong("1", 0, 0)


class RightWordsTest(NotationCase):

    def test_numbers_of_1_to_10_figures(self):
        for place, height in itertools.product(RIGHT_NUMBERS, repeat=2):
            text = f"stone {place} {height}"
            if int(place) <= FAR and 1 <= int(height) <= FAR:
                self.assertEqual(parse_row(text).stones, ((int(place), int(height)),))
            else:
                self.assert_invalid_row(text, 0)

    def test_invalid_rows(self):
        self.assert_invalid_row("stone 0 0", 0)
        self.assert_invalid_row("stone 0 1\nstone 0 1", 1)
        self.assert_invalid_row("stone 5 1\nstone 6 1\nstone 4 1\nstone 3 1", 2)
        self.assert_invalid_row("stone 0 1\nstone 1000000001 1", 1)
        self.assert_invalid_row("stone 0 1\nstone 1 1000000001", 1)

    def test_41_stones(self):
        lines = [f"stone {place} 1" for place in range(43)]
        self.assertEqual(parse_row("\n".join(lines[:40])), LONGEST)
        self.assert_invalid_row("\n".join(lines[:41]), 40)
        self.assert_invalid_row("\n".join(lines), 40)
        self.assert_invalid_row("\n".join(lines[:20] + lines), 20)

    def test_notation_ahead_of_rows(self):
        self.assert_wrong("stone 5 0\nstone 4 1\nstone 6", 2, 2)
        lines = [f"stone {place} 1" for place in range(41)]
        self.assert_wrong("\n".join(lines + ["stone 41 1 "]), 41, 3)
        self.assert_wrong("\n".join(lines + [""]), 41, 0)


class PlainReadingTest(NotationCase):

    # No text of this test has a number of more than five figures.
    NUMBERS = frozenset(map(str, range(100000)))

    def plain_fault(self, text):
        """The first wrong line and word, by a list of all words that may stand at a place."""
        for line, words in enumerate([line.split(" ") for line in text.split("\n")]):
            for word, right in enumerate(({"stone"}, self.NUMBERS, self.NUMBERS)):
                if words[word:word + 1] == [] or words[word] not in right:
                    return line, word
            if words[3:]:
                return line, 3
        return None

    def test_texts_with_a_sign_more_less_or_other(self):
        chance = random.Random(61)
        for row in mixed_rows(60, 5, 62):
            text = format_row(row)
            for _ in range(25):
                at = chance.randint(0, len(text))
                sign = chance.choice(("", "", " ", "\n", "0", "7", "s", "-"))
                other = text[:at] + sign + text[at + chance.randint(0, 1):]
                fault = self.plain_fault(other)
                if other == "":
                    self.assertEqual(parse_row(other), Row())
                elif fault is not None:
                    self.assert_wrong(other, *fault)
                else:
                    self.assert_row_or_invalid(other)

    def assert_row_or_invalid(self, text):
        stones = [tuple(map(int, line.split(" ")[1:])) for line in text.split("\n")]
        try:
            row = Row(*stones)
        except InvalidRow as error:
            self.assert_invalid_row(text, error.index)
        else:
            self.assertEqual(parse_row(text), row)
            self.assertEqual(format_row(row), text)


class ChartTest(NotationCase):

    def test_commas_and_widths(self):
        row = Row((0, 1), (999, 1000), (1000, 12345), (1234567, 999999), (FAR, FAR))
        self.assertEqual(chart(row, 4, "left"), "\n".join((
            " 0             0             1   1",
            " 1           999         1,000   1",
            " 2         1,000        12,345   1",
            " 3     1,234,567       999,999   1",
            " 4 1,000,000,000 1,000,000,000   0")))
        self.assertEqual(chart(row, 1, "right"), "\n".join((
            " 0             0             1   -",
            " 1           999         1,000   0",
            " 2         1,000        12,345   1",
            " 3     1,234,567       999,999   -",
            " 4 1,000,000,000 1,000,000,000   -")))

    def test_longest_row(self):
        lines = chart(LONGEST, 0, "right").split("\n")
        self.assertEqual(len(lines), 40)
        self.assertEqual(lines[9], " 9             9             1   9")
        self.assertEqual(lines[10], "10            10             1  10")
        self.assertEqual(lines[39], "39            39             1  39")

    def test_against_plain_ticks(self):
        for row in mixed_rows(60, 12, 63):
            far = row >> FAR - 100
            for stone, side in all_pushes(row):
                ticks = tumble(row.stones, range(len(row)), stone, side)
                lines = []
                for number, (place, height) in enumerate(far.stones):
                    comma_place = f"{str(place)[:-6]},{str(place)[-6:-3]},{str(place)[-3:]}"
                    words = (str(number).rjust(2), comma_place.rjust(13), str(height).rjust(13),
                             str(ticks.get(number, "-")).rjust(3))
                    lines.append(" ".join(words))
                self.assertEqual(chart(far, stone, side), "\n".join(lines))

    def test_unknown_stones_ahead_of_wrong_sides(self):
        for stone in WRONG_STONES + (5,):
            for side in ("left", "up", None):
                with self.subTest(stone=stone, side=side), self.assertRaises(UnknownStone):
                    chart(FIVE, stone, side)
        for side in WRONG_SIDES:
            with self.subTest(side=side), self.assertRaises(InvalidSide):
                chart(FIVE, 4, side)
        for side in ("right", "up"):
            with self.assertRaises(UnknownStone):
                chart(Row(), 0, side)


if __name__ == "__main__":
    unittest.main()
