"""Rows, wrong arguments and a plain reference that the tests share."""

import itertools
import random

from rowdominoes.rows import Row

SIDES = ("left", "right")

# No stone of a row of at most six stones.
WRONG_STONES = (6, 40, -1, -6, 10 ** 9, True, False, None, "", "0", "left", [], [0], (), (0,), (0, 2))

WRONG_SIDES = ("", "Left", "RIGHT", "left ", "up", "l", None, True, False, 0, 1, -1,
               [], ["left"], (), ("right",), ("left", "right"))

WRONG_KINDS = (True, False, None, "", "1", [], [1], (), (1,), (1, 1))


def all_rows(count, gaps, heights, start=0):
    """All rows of so many stones with these gaps and heights."""
    for between in itertools.product(gaps, repeat=max(0, count - 1)):
        places = list(itertools.accumulate(between, initial=start))[:count]
        for tall in itertools.product(heights, repeat=count):
            yield Row(*zip(places, tall))


def mixed_rows(many, most_stones, seed):
    """So many rows of different lengths, the same ones each time."""
    chance = random.Random(seed)
    for _ in range(many):
        count = chance.randint(0, most_stones)
        places = sorted(chance.sample(range(4 * count + 1), count))
        yield Row(*[(place, chance.choice((1, 1, 2, 3, 4, 5, 7, 11))) for place in places])


def small_rows():
    """Rows of no to four stones, and some longer ones."""
    for count in range(4):
        yield from all_rows(count, (1, 2, 3), (1, 2, 3, 5))
    yield from all_rows(4, (1, 2, 3), (1, 2, 4))
    yield from mixed_rows(150, 12, 5)


def is_hit(stones, stone, side, other):
    """Whether a stone that falls to a side comes down on another one."""
    place, height = stones[stone]
    if side == "right":
        return place < stones[other][0] <= place + height
    return place - height <= stones[other][0] < place


def tumble(stones, standing, stone, side):
    """Let stone after stone fall, tick after tick: a dict from stones to ticks."""
    ticks = {stone: 0}
    falling = [stone]
    tick = 0
    while falling:
        tick += 1
        hit = []
        for faller in falling:
            for other in standing:
                if other not in ticks and is_hit(stones, faller, side, other):
                    ticks[other] = tick
                    hit.append(other)
        falling = hit
    return ticks


def felled(stones, stone, side):
    """The ascending list of the stones that a push fells while all stones stand."""
    return sorted(tumble(stones, range(len(stones)), stone, side))


def all_pushes(row):
    return list(itertools.product(range(len(row)), SIDES))


def fewest_by_trying(row):
    """The least number of pushes that fell all stones, by a try of all lists of pushes."""
    stones = row.stones
    states = {tuple(range(len(stones)))}
    pushes = 0
    while () not in states:
        later = set()
        for standing in states:
            for stone, side in itertools.product(standing, SIDES):
                fallen = tumble(stones, standing, stone, side)
                later.add(tuple(other for other in standing if other not in fallen))
        states = later
        pushes += 1
    return pushes
