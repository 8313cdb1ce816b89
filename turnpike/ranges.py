"""The greatest numbers that arguments may be."""

GREATEST_AMOUNT = 10 ** 15
GREATEST_HEIGHT = 10 ** 12
GREATEST_ROOM = 200
