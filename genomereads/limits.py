"""How great the numbers may be, and whether one is."""

MOST_BASES = 65536
MOST_TOLD = 65536


def outside(number, least, greatest):
    return number < least or number > greatest
