"""Stones that are taken away, and heights that change, so that a run changes or stays."""

from rowdominoes.checks import SIDES, check_side, check_stone
from rowdominoes.rows import stones_beside

GREATEST_GROWTH = 10 ** 9


def _distance(row, stone, other):
    return abs(row.places[other] - row.places[stone])


def _reaches(row, stone, other):
    _, height = row[stone]
    return _distance(row, stone, other) <= height


def fewest_taken(row, stone, side, goal):
    """The fewest stones that must be taken away so that a push does not fell the goal, or None."""
    first, last = row(stone, side)
    check_stone(goal, len(row))
    if not first <= goal <= last:
        return []
    fewest = None
    # The run ends ahead of some stone up to the goal: the first one that is neither felled nor taken away.
    for spared in stones_beside(stone, side, len(row))[:abs(goal - stone)]:
        taken = _reaching_between(row, stone, spared)
        if not _reaches(row, stone, spared) and (fewest is None or len(taken) < len(fewest)):
            fewest = taken
    return fewest


def _reaching_between(row, stone, spared):
    """The stones between two stones that reach the second one of these."""
    between = range(min(stone, spared) + 1, max(stone, spared))
    return [other for other in between if _reaches(row, other, spared)]


def least_height(row, stone, side, changed, goal):
    """The least height of the changed stone with which a push fells the goal, or None."""
    check_stone(stone, len(row))
    check_side(side)
    check_stone(changed, len(row))
    check_stone(goal, len(row))
    for height in _telling_heights(row, changed):
        changed_row = row.with_height(changed, height)
        first, last = changed_row(stone, side)
        if first <= goal <= last:
            return height
    return None


def _telling_heights(row, stone):
    """The ascending heights of a stone from which on it hits more stones, and the least one of all."""
    distances = [_distance(row, stone, other) for other in range(len(row)) if other != stone]
    return sorted([1] + distances)


def least_heights(row):
    """The least heights of all stones with which the runs of all pushes are the same."""
    # As long as all runs stay, what one stone needs does not depend on the heights of the others.
    return [max([_height_for_run(row, stone, side) for side in SIDES]) for stone in range(len(row))]


def _height_for_run(row, stone, side):
    """The least height of a stone with which its own run to a side is the same."""
    for other in stones_beside(stone, side, len(row)):
        if _run_end(row, other, side) == _run_end(row, stone, side):
            return _distance(row, stone, other)
    return 1


def _run_end(row, stone, side):
    first, last = row(stone, side)
    return last if side == "right" else first


def safe_growth(row, stone):
    """The greatest number by which a stone can grow so that its own two runs are the same."""
    check_stone(stone, len(row))
    _, height = row[stone]
    growths = [GREATEST_GROWTH]
    for spared in (_run_end(row, stone, "left") - 1, _run_end(row, stone, "right") + 1):
        if 0 <= spared < len(row):
            growths.append(_distance(row, stone, spared) - 1 - height)
    return min(growths)
