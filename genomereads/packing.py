"""Bases in two bits: how they are read out of bytes and written into them, and the other strand."""

CAPITALS = (65, 67, 71, 84)


def bytes_for(n):
    return (n + 3) // 4


def base_at(bases, place):
    return (bases[place // 4] >> (2 * (place % 4))) & 3


def read_bases(bases, begin, n):
    return [base_at(bases, place) for place in range(begin, begin + n)]


def write_bases(codes):
    # Starting from zeros leaves the bits behind the last base 0, as the document asks of what is written.
    packed = [0] * bytes_for(len(codes))
    for place, code in enumerate(codes):
        packed[place // 4] = packed[place // 4] | (code << (2 * (place % 4)))
    return packed


def other_strand(codes):
    return [3 - code for code in reversed(codes)]
