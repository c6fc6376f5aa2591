"""Fewest edits, kept for a whole column of the table at once.

The table has a row for each base of a piece and a column for each base of a text. Numbers next to each other in it
differ by 1 at most, so a column is told by its steps from row to row, a bit for each. That way a column costs some
operations on numbers of many bits, where number by number would be too slow for the sizes that may be asked for.
"""

# So many rows at most are kept in one number; edits may have more, and then has several blocks below one another.
MOST_ROWS = 512


class Block:
    def __init__(self, codes):
        self.full = (1 << len(codes)) - 1
        self.last = 1 << (len(codes) - 1)
        # Ahead of the first base of the text each row is one edit more than the row above it.
        self.rising = self.full
        self.falling = 0
        self.places = [0, 0, 0, 0]
        for place, code in enumerate(codes):
            self.places[code] = self.places[code] | (1 << place)

    # A step (-1, 0 or 1) is what a row goes up by with one base of the text. The row above the block hands it in,
    # the block's last row hands it on, so that blocks can stand below one another.
    def advance(self, base, step):
        alike = self.places[base]
        kept = alike | self.falling
        if step < 0:
            alike = alike | 1
        # The sum carries: a row that goes down takes those below it along, as long as they rise.
        level = (((alike & self.rising) + self.rising) ^ self.rising) | alike
        up = self.falling | (self.full & ~(level | self.rising))
        down = self.rising & level
        # Each row's step is now that of the row above the next one.
        above_up = (up << 1) & self.full
        above_down = (down << 1) & self.full
        if step > 0:
            above_up = above_up | 1
        if step < 0:
            above_down = above_down | 1
        self.rising = above_down | (self.full & ~(kept | above_up))
        self.falling = above_up & kept
        if (up & self.last) != 0:
            return 1
        if (down & self.last) != 0:
            return -1
        return 0


def fewest_edits(a, b):
    blocks = [Block(a[begin:begin + MOST_ROWS]) for begin in range(0, len(a), MOST_ROWS)]
    fewest = len(a)
    for base in b:
        # Above the first row nothing of a is taken, so there each base of b is one that is put in.
        step = 1
        for block in blocks:
            step = block.advance(base, step)
        fewest += step
    return fewest


def near_ends(codes, piece, k):
    block = Block(piece)
    fewest = len(piece)
    ends = []
    for place, base in enumerate(codes):
        # Above the first row nothing changes: what is compared may begin anywhere, and what stands ahead is free.
        fewest += block.advance(base, 0)
        if fewest <= k:
            ends.append(place + 1)
    return ends
