"""What pushes fell: when, with how few of them, and what one stone less spares."""

from rowdominoes.checks import SIDES, check_side, check_stone
from rowdominoes.errors import AlreadyFallen, OtherRow
from rowdominoes.rows import Row, felled_by, stones_beside


def fall_ticks(row, stone, side):
    """A dict from each stone that a push fells to the tick in which it falls."""
    check_stone(stone, len(row))
    check_side(side)
    stones = row.stones
    ticks = {stone: 0}
    for other in stones_beside(stone, side, len(row)):
        hits = [ticks[fallen] for fallen in ticks if _reaches(stones[fallen], stones[other])]
        if hits:
            ticks[other] = min(hits) + 1
    return {fallen: ticks[fallen] for fallen in sorted(ticks)}


def _reaches(stone, other):
    place, height = stone
    return abs(other[0] - place) <= height


def greatest_runs(row, side):
    """The ascending list of the runs to a side that no other run to it contains."""
    check_side(side)
    runs = [row(stone, side) for stone in range(len(row))]
    return [run for run in runs if not _is_within_another(run, runs)]


def _is_within_another(run, runs):
    first, last = run
    return any([other != run and other[0] <= first and last <= other[1] for other in runs])


def fewest_to_side(row, side):
    """The ascending list of the stones whose pushes to a side fell all stones."""
    runs = greatest_runs(row, side)
    if side == "right":
        return [first for first, _ in runs]
    return [last for _, last in runs]


def spared_without(row, stone, side, other):
    """The stones that a push fells, but not if the other stone is missing."""
    first, last = row(stone, side)
    check_stone(other, len(row))
    felled = _felled_without(row, stone, side, other)
    return [spared for spared in range(first, last + 1) if spared != other and spared not in felled]


def _felled_without(row, stone, side, other):
    if other == stone:
        return []
    # For a push, a stone that is missing is like one that lies on the ground.
    standing = [number != other for number in range(len(row))]
    return felled_by(row.stones, standing, stone, side)


def falls_by(row, *pushes):
    """Yield for each of the pushes, made one after another, the stones that it fells."""
    stones = row.stones
    standing = [True] * len(stones)
    for index, (stone, side) in enumerate(pushes):
        check_stone(stone, len(stones))
        check_side(side)
        if not standing[stone]:
            raise AlreadyFallen(index)
        felled = felled_by(stones, standing, stone, side)
        for fallen in felled:
            standing[fallen] = False
        yield felled


def fewest_pushes(row):
    """A list of the fewest pushes with which all stones fall, in an order that can be made."""
    pushes_for = [[]]
    for last in range(len(row)):
        pushes_for.append(_fewest_up_to(row, last, pushes_for))
    return pushes_for[-1]


def _fewest_up_to(row, last, pushes_for):
    """The fewest pushes that fell all stones up to the last one.

    pushes_for holds such lists for each number of stones up to this one. The
    push for the last stones stands ahead of those for the stones before them:
    it leaves these standing, while their pushes may fell stones behind them.
    """
    first, _ = row(last, "left")
    best = [(last, "left")] + pushes_for[first]
    for stone in range(last + 1):
        pushes = [(stone, "right")] + pushes_for[stone]
        if len(pushes) < len(best) and row(stone, "right")[1] >= last:
            best = pushes
    return best


def first_unlike_push(row, other):
    """The first push whose runs in two rows are different, or None."""
    if not isinstance(other, Row) or len(row) != len(other):
        raise OtherRow("no row of equally many stones")
    for stone in range(len(row)):
        for side in SIDES:
            if row(stone, side) != other(stone, side):
                return stone, side
    return None
