"""The text of a row, and the chart of a push."""

from rowdominoes.errors import NotationError
from rowdominoes.rows import Row
from rowdominoes.runs import fall_ticks

FIRST_WORD = "stone"
WORDS = 3
MOST_FIGURES = 10


def format_row(row):
    """The text of a row, with a line for each stone."""
    return "\n".join([f"{FIRST_WORD} {place} {height}" for place, height in row.stones])


def parse_row(text):
    """The row of a text."""
    if not isinstance(text, str):
        raise NotationError(0, 0)
    if text == "":
        return Row()
    stones = [_parsed_stone(line, number) for number, line in enumerate(text.split("\n"))]
    return Row(*stones)


def _parsed_stone(line, number):
    """The stone of the line of this number."""
    words = line.split(" ")
    for index, word in enumerate(words):
        if not _is_right_word(word, index):
            raise NotationError(number, index)
    if len(words) < WORDS:
        raise NotationError(number, len(words))
    return int(words[1]), int(words[2])


def _is_right_word(word, index):
    if index == 0:
        return word == FIRST_WORD
    return index < WORDS and _is_notation_of_number(word)


def _is_notation_of_number(word):
    # There are figures other than 0 to 9, too.
    if not word.isascii() or not word.isdigit() or len(word) > MOST_FIGURES:
        return False
    return word == "0" or not word.startswith("0")


def chart(row, stone, side):
    """A text with a line for each stone, which tells when it falls after a push."""
    ticks = fall_ticks(row, stone, side)
    lines = []
    for number, (place, height) in enumerate(row.stones):
        tick = ticks.get(number, "-")
        lines.append(f"{number:>2} {place:>13,} {height:>13,} {tick:>3}")
    return "\n".join(lines)
