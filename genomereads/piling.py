"""Reads piled up on a genome, and what they say together."""

from genomereads.laying import LETTER_D, LETTER_I, LETTER_M
from genomereads.packing import CAPITALS
from genomereads.qualities import LEAST_BYTE, first_other_byte

GREATEST_COUNT = 65535
LETTER_N = 78
LETTER_OVER = 45


def raised(number, more):
    return min(number + more, GREATEST_COUNT)


class Reads:
    def __init__(self, length):
        self.length = length
        # One list for all places, four numbers each, costs much less than a list for each place.
        self.counts = [0] * (4 * length)
        self.weights = [0] * (4 * length)
        self.over = [0] * length

    def fits(self, codes, qualities, way, place):
        taken = way.count(LETTER_M) + way.count(LETTER_I)
        walked = way.count(LETTER_M) + way.count(LETTER_D)
        if taken + way.count(LETTER_D) < len(way) or first_other_byte(qualities) < len(qualities):
            return False
        return taken == len(codes) and place + walked <= self.length

    # Only of a read that fits: a fault that is found on the way would leave it half piled.
    def pile(self, codes, qualities, way, place):
        taken = 0
        for letter in way:
            if letter == LETTER_M:
                spot = 4 * place + codes[taken]
                self.counts[spot] = raised(self.counts[spot], 1)
                self.weights[spot] = raised(self.weights[spot], qualities[taken] - LEAST_BYTE)
            if letter == LETTER_D:
                self.over[place] = raised(self.over[place], 1)
            if letter != LETTER_D:
                taken += 1
            if letter != LETTER_I:
                place += 1

    def depth_at(self, place):
        return sum(self.counts[4 * place:4 * place + 4]) + self.over[place]

    def said_at(self, place):
        depth = self.depth_at(place)
        if depth == 0:
            return LETTER_N
        if 2 * self.over[place] > depth:
            return LETTER_OVER
        weights = self.weights[4 * place:4 * place + 4]
        return CAPITALS[weights.index(max(weights))]
