"""Rows of stones, and which stones a push fells."""

from rowdominoes.checks import check_number, check_side, check_stone, is_number
from rowdominoes.errors import InvalidRow

GREATEST_PLACE = 10 ** 9
GREATEST_HEIGHT = 10 ** 9


def stones_beside(stone, side, count):
    """The numbers of the stones on a side of a stone, the nearest one first."""
    if side == "right":
        return list(range(stone + 1, count))
    return list(range(stone - 1, -1, -1))


def felled_by(stones, standing, stone, side):
    """The ascending list of the stones that a push fells.

    standing tells for each stone whether it stands; the pushed one does.
    """
    start, reach = stones[stone]
    felled = [stone]
    for other in stones_beside(stone, side, len(stones)):
        place, height = stones[other]
        distance = abs(place - start)
        if distance > reach:
            break
        if standing[other]:
            felled.append(other)
            reach = max(reach, distance + height)
    return sorted(felled)


def _is_stone(stone, least_place):
    if not isinstance(stone, tuple) or len(stone) != 2:
        return False
    place, height = stone
    return is_number(place, least_place, GREATEST_PLACE) and is_number(height, 1, GREATEST_HEIGHT)


class Row:
    """A row of upright stones, tuples of a place and a height; it never changes."""

    MAX_STONES = 40

    def __init__(self, *stones):
        least_place = 0
        for index, stone in enumerate(stones):
            if index == self.MAX_STONES or not _is_stone(stone, least_place):
                raise InvalidRow(index)
            least_place = stone[0] + 1
        self._stones = stones

    @classmethod
    def even(cls, count, gap, height):
        """The row of so many stones of this height, a gap between each two."""
        check_number(count, 1, cls.MAX_STONES)
        check_number(gap, 1, GREATEST_PLACE)
        check_number(height, 1, GREATEST_HEIGHT)
        stones = [(stone * gap, height) for stone in range(count)]
        return cls(*stones)

    @property
    def stones(self):
        return self._stones

    @property
    def places(self):
        return tuple([place for place, _ in self._stones])

    def __len__(self):
        return len(self._stones)

    def __getitem__(self, stone):
        check_stone(stone, len(self._stones))
        return self._stones[stone]

    def __iter__(self):
        raise TypeError("a row cannot be walked in loops")

    def __contains__(self, place):
        return is_number(place, 0, GREATEST_PLACE) and place in self.places

    def __add__(self, other):
        if not isinstance(other, Row):
            return NotImplemented
        stones = self._stones + other._stones
        return Row(*stones)

    def __rshift__(self, distance):
        check_number(distance, -GREATEST_PLACE, GREATEST_PLACE)
        stones = [(place + distance, height) for place, height in self._stones]
        return Row(*stones)

    def __invert__(self):
        places = self.places
        stones = [(places[0] + places[-1] - place, height) for place, height in self._stones[::-1]]
        return Row(*stones)

    def __eq__(self, other):
        return isinstance(other, Row) and self._stones == other._stones

    def __call__(self, stone, side):
        """The first and the last stone that a push of a stone to a side fells."""
        check_stone(stone, len(self._stones))
        check_side(side)
        standing = [True] * len(self._stones)
        felled = felled_by(self._stones, standing, stone, side)
        return felled[0], felled[-1]

    def without(self, *stones):
        """The row without these stones."""
        count = len(self._stones)
        for stone in stones:
            check_stone(stone, count)
        kept = [self._stones[stone] for stone in range(count) if stone not in stones]
        return Row(*kept)

    def with_height(self, stone, height):
        """The row in which the stone has this height."""
        check_stone(stone, len(self._stones))
        check_number(height, 1, GREATEST_HEIGHT)
        stones = list(self._stones)
        stones[stone] = (stones[stone][0], height)
        return Row(*stones)
