"""A piece that stands somewhere in a genome, wholly or with its beginning.

A length here is that of the longest beginning of the piece that ends just where the walk along the genome is. The
next base makes it longer, or the walk goes on with the next shorter beginning that ends there too.
"""


def length_behind(piece, shorter, length, code):
    # Falling back to what is known of the piece spares reading a base of the genome a second time.
    while length > 0 and (length == len(piece) or piece[length] != code):
        length = shorter[length - 1]
    if piece[length] == code:
        return length + 1
    return 0


def shorter_beginnings(piece):
    shorter = [0]
    for code in piece[1:]:
        shorter.append(length_behind(piece, shorter, shorter[-1], code))
    return shorter


def beginnings_at(codes, piece):
    shorter = shorter_beginnings(piece)
    lengths = []
    length = 0
    for code in codes:
        length = length_behind(piece, shorter, length, code)
        lengths.append(length)
    return lengths


def places_of(codes, piece):
    lengths = beginnings_at(codes, piece)
    return [place - len(piece) + 1 for place, length in enumerate(lengths) if length == len(piece)]


def longest_beginning(codes, piece):
    # The walk needs a first base; of no bases nothing can stand.
    if len(piece) == 0:
        return 0
    return max(beginnings_at(codes, piece), default=0)
