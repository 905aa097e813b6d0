"""What all modules ask of numbers, stones and sides."""

from rowdominoes.errors import InvalidNumber, InvalidSide, UnknownStone

SIDES = ("left", "right")


def is_number(value, least, greatest):
    # Python counts True and False as integers; here they are no numbers.
    return isinstance(value, int) and not isinstance(value, bool) and least <= value <= greatest


def check_number(value, least, greatest):
    if not is_number(value, least, greatest):
        raise InvalidNumber(f"no number from {least} to {greatest}")


def check_stone(stone, count):
    """Raise UnknownStone unless it is the number of one of so many stones."""
    if not is_number(stone, 0, count - 1):
        raise UnknownStone(f"no number of one of {count} stones")


def check_side(side):
    if side not in SIDES:
        raise InvalidSide("neither left nor right")
