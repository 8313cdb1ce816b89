"""The greatest numbers that arguments may be."""

from turnpike.errors import OutOfBounds

GREATEST_AMOUNT = 10 ** 15
GREATEST_HEIGHT = 10 ** 12
GREATEST_ROOM = 200


def check_range(name, number, least, greatest):
    """Raise OutOfBounds if the number, which the name tells of, is not from the least to the greatest one."""
    if number < least or number > greatest:
        raise OutOfBounds(f"{name} is not from {least} to {greatest}")
