"""Observers who find out a height, or a push, from what they see of a row."""

from rowdominoes.checks import SIDES, check_number, check_side, check_stone, is_number
from rowdominoes.cutting import least_height
from rowdominoes.errors import Contradiction
from rowdominoes.rows import GREATEST_HEIGHT, stones_beside
from rowdominoes.runs import fall_ticks

GREATEST_TICK = 40


def _all_pushes(count):
    return [(stone, side) for stone in range(count) for side in SIDES]


def _height_to_fell(row, stone, side, changed, count):
    """The least height of the changed stone with which a push fells at least so many stones.

    It is too great for a stone if the push cannot fell so many.
    """
    falling = [stone] + stones_beside(stone, side, len(row))
    height = None
    if count <= len(falling):
        height = least_height(row, stone, side, changed, falling[count - 1])
    return GREATEST_HEIGHT + 1 if height is None else height


class HeightObserver:
    """An observer who does not know the height of one stone of a row."""

    def __init__(self, row, stone):
        check_stone(stone, len(row))
        self._row = row
        self._stone = stone
        self._range = (1, GREATEST_HEIGHT)
        self._observations = []

    @property
    def height_range(self):
        return self._range

    @property
    def observations(self):
        return list(self._observations)

    def see_run(self, stone, side, count):
        """Record that a push fells so many stones, and return how many heights remain possible."""
        check_stone(stone, len(self._row))
        check_side(side)
        check_number(count, 1, len(self._row))
        # A higher stone never makes a run shorter, so the heights for one count follow each other.
        least = max(self._range[0], _height_to_fell(self._row, stone, side, self._stone, count))
        beyond = _height_to_fell(self._row, stone, side, self._stone, count + 1)
        greatest = min(self._range[1], beyond - 1)
        if least > greatest:
            raise Contradiction("no height would remain possible")
        self._range = (least, greatest)
        self._observations.append((stone, side, count))
        return greatest - least + 1

    def telling_pushes(self):
        """The pushes whose runs are not the same with all possible heights."""
        least, greatest = self._range
        low = self._row.with_height(self._stone, least)
        high = self._row.with_height(self._stone, greatest)
        pushes = _all_pushes(len(self._row))
        return [(stone, side) for stone, side in pushes if low(stone, side) != high(stone, side)]


class PushObserver:
    """An observer who does not know which push was made while all stones of a row stood."""

    def __init__(self, row):
        self._count = len(row)
        # For each possible push, the ticks in which the stones fall.
        self._falls = {push: fall_ticks(row, *push) for push in _all_pushes(len(row))}
        self._observations = []

    @classmethod
    def from_log(cls, row, *observations):
        """An observer after these observations."""
        observer = cls(row)
        for name, stone, seen in observations:
            if name == "see_stone":
                observer.see_stone(stone, seen)
            else:
                observer.see_tick(stone, seen)
        return observer

    def __len__(self):
        return len(self._falls)

    def __contains__(self, push):
        # For Python, a push of the stone True would equal one of the stone 1.
        if not isinstance(push, tuple) or len(push) != 2 or not is_number(push[0], 0, self._count - 1):
            return False
        return push in list(self._falls)

    @property
    def candidates(self):
        return list(self._falls)

    @property
    def observations(self):
        return list(self._observations)

    def see_stone(self, stone, is_lying):
        """Record whether a stone has fallen, and return how many pushes remain possible."""
        check_stone(stone, self._count)
        falls = {push: ticks for push, ticks in self._falls.items() if (stone in ticks) == is_lying}
        return self._accept(falls, ("see_stone", stone, is_lying))

    def see_tick(self, stone, tick):
        """Record in which tick a stone fell, and return how many pushes remain possible."""
        check_stone(stone, self._count)
        check_number(tick, 0, GREATEST_TICK)
        falls = {push: ticks for push, ticks in self._falls.items() if ticks.get(stone) == tick}
        return self._accept(falls, ("see_tick", stone, tick))

    def _accept(self, falls, observation):
        if not falls:
            raise Contradiction("no push would remain possible")
        self._falls = falls
        self._observations.append(observation)
        return len(falls)

    def best_stone(self):
        """The stone for which see_stone leaves the fewest pushes in its worse case, or None."""
        return min(list(range(self._count)), key=self._most_left, default=None)

    def _most_left(self, stone):
        """How many pushes see_stone leaves at most."""
        felling = len([ticks for ticks in self._falls.values() if stone in ticks])
        return max(felling, len(self._falls) - felling)
