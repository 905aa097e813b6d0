"""Rows whose stones come again in round after round, and waves that run through them.

The stones are counted on through all rounds here: the ordinal of a stone is
its round times the number of stones in a round, plus its own number.
"""

from rowdominoes.checks import check_number, check_stone
from rowdominoes.errors import InvalidRow
from rowdominoes.rows import Row

GREATEST_PERIOD = 10 ** 9
GREATEST_TICK = 10 ** 18
GREATEST_ROUND = 10 ** 18


def _last_hit(row, period, stone):
    """The ordinal of the last stone that a stone of round 0 reaches; its own one if it hits none."""
    place, height = row[stone]
    start = row.places[0]
    rounds, rest = divmod(place + height - start, period)
    reached = [other for other in row.places if other - start <= rest]
    return rounds * len(row) + len(reached) - 1


def _next_front(hits, first, front):
    """The ordinal of the last stone that has fallen a tick after the stones up to front have.

    hits holds for each stone of round 0 the ordinal of the last one that it
    reaches, and first is the ordinal of the pushed stone.
    """
    count = len(hits)
    reached = [front]
    # Each stone that is a round or more behind the front reaches less far than the same one of a later round.
    for ordinal in range(max(first, front - count + 1), front + 1):
        number, stone = divmod(ordinal, count)
        reached.append(number * count + hits[stone])
    return max(reached)


def _fronts_of_wave(hits, first):
    """The ordinals of the last stone that has fallen after each tick.

    They end with the wave, or else so late that it has surely begun to repeat.
    """
    fronts = [first]
    for _ in range(2 * len(hits)):
        front = _next_front(hits, first, fronts[-1])
        if front == fronts[-1]:
            break
        fronts.append(front)
    return fronts


def _first_repeat(fronts, count):
    """The tuple of repeating_ticks, or None if the wave ends."""
    tick_with = {}
    for tick, front in enumerate(fronts):
        # Once a whole round has fallen, the stone at the front alone tells how the wave goes on.
        if front - fronts[0] >= count - 1:
            _, stone = divmod(front, count)
            if stone in tick_with:
                earlier = tick_with[stone]
                return earlier, tick - earlier, front - fronts[earlier]
            tick_with[stone] = tick
    return None


class EndlessRow:
    """The stones of a row, and in each further round the same ones a period farther to the right."""

    def __init__(self, row, period):
        if not isinstance(row, Row) or len(row) == 0:
            raise InvalidRow(0)
        check_number(period, row.places[-1] - row.places[0] + 1, GREATEST_PERIOD)
        self._row = row
        self._period = period

    @property
    def row(self):
        return self._row

    @property
    def period(self):
        return self._period

    def wave(self, stone):
        """What a push of a stone of round 0 to the right fells."""
        check_stone(stone, len(self._row))
        return Wave(self._row, self._period, stone)


class Wave:
    """What a push of a stone of an endless row to the right fells, tick by tick."""

    def __init__(self, row, period, stone):
        hits = [_last_hit(row, period, other) for other in range(len(row))]
        self._count = len(row)
        self._fronts = _fronts_of_wave(hits, stone)
        self._repeat = _first_repeat(self._fronts, self._count)

    @property
    def is_endless(self):
        return self._repeat is not None

    @property
    def last_fallen(self):
        if self._repeat is not None:
            return None
        return divmod(self._fronts[-1], self._count)

    def count_after(self, tick):
        """How many stones have fallen after a tick."""
        check_number(tick, 0, GREATEST_TICK)
        return self._front_after(tick) - self._fronts[0] + 1

    def _front_after(self, tick):
        if tick < len(self._fronts):
            return self._fronts[tick]
        if self._repeat is None:
            return self._fronts[-1]
        start, ticks, stones = self._repeat
        times, rest = divmod(tick - start, ticks)
        return self._fronts[start + rest] + times * stones

    def tick_of(self, number, stone):
        """The tick in which a stone of the round of this number falls, or None."""
        check_number(number, 0, GREATEST_ROUND)
        check_stone(stone, self._count)
        ordinal = number * self._count + stone
        if ordinal < self._fronts[0]:
            return None
        if self._repeat is None:
            return self._first_tick(ordinal)
        start, ticks, stones = self._repeat
        times = max(0, (ordinal - self._fronts[start]) // stones)
        return self._first_tick(ordinal - times * stones) + times * ticks

    def _first_tick(self, ordinal):
        for tick, front in enumerate(self._fronts):
            if front >= ordinal:
                return tick
        return None


def repeating_ticks(wave):
    """A tuple (tick, ticks, stones): from the tick on, in so many ticks so many stones fall.

    It is None for a wave that ends.
    """
    return wave._repeat
