"""The calls: each takes lists and whole numbers and gives back one list of whole numbers."""

MOST_BASES = 65536
CAPITALS = (65, 67, 71, 84)
BASE_OF_LETTER = {65: 0, 67: 1, 71: 2, 84: 3, 97: 0, 99: 1, 103: 2, 116: 3}


def pack(letters):
    codes = []
    for place, letter in enumerate(letters):
        if letter not in BASE_OF_LETTER:
            # Places count from 0, and a 0 at the front would say that all went well.
            return [place + 1]
        codes.append(BASE_OF_LETTER[letter])
    return answer(0, write_bases(codes))


def unpack(bases, n):
    if n < 0 or n > MOST_BASES:
        return [-1]
    return answer(0, [CAPITALS[base_at(bases, place)] for place in range(n)])


def answer(first, part):
    # The length stands there for an empty part too, so that every accepted answer has one form.
    return [first, len(part)] + part


def base_at(bases, place):
    return (bases[place // 4] >> (2 * (place % 4))) & 3


def write_bases(codes):
    # Starting from zeros leaves the bits behind the last base 0, as the document asks of what is written.
    packed = [0] * ((len(codes) + 3) // 4)
    for place, code in enumerate(codes):
        packed[place // 4] = packed[place // 4] | (code << (2 * (place % 4)))
    return packed
