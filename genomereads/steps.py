"""The steps that are made of a genome: each takes its whole list, its number at the front, and gives back its part."""

from genomereads.distances import near_ends
from genomereads.laying import Scores, best_way
from genomereads.limits import MOST_TOLD, outside
from genomereads.packing import bytes_for, read_bases
from genomereads.pieces import longest_beginning, places_of
from genomereads.piling import Reads

MOST_SOUGHT = 1024
MOST_NEAR = 512
MOST_LAID = 1024
MOST_SCORE = 127
MOST_READ = 1024
MOST_LETTERS = 4096


class Genome:
    def __init__(self, codes):
        self.codes = codes
        self.reads = Reads(len(codes))

    def make(self, step):
        if step[0] == 1:
            return self.find_places(step)
        if step[0] == 2:
            return self.find_longest(step)
        if step[0] == 3:
            return self.find_near(step)
        if step[0] == 4:
            return lay(step)
        if step[0] == 5:
            return self.pile_read(step)
        if step[0] == 6:
            return self.tell_said(step)
        if step[0] == 7:
            return self.tell_depth(step)
        return [-1]

    def find_places(self, step):
        m = step[1]
        most = step[2]
        if outside(m, 1, MOST_SOUGHT) or outside(most, 0, MOST_TOLD):
            return [-1]
        places = places_of(self.codes, read_bases(step[3:], 0, m))
        return [len(places)] + places[:most]

    def find_longest(self, step):
        m = step[1]
        begin = step[2]
        if outside(m, 1, MOST_SOUGHT) or outside(begin, 0, m):
            return [-1]
        return [longest_beginning(self.codes, read_bases(step[3:], begin, m - begin))]

    def find_near(self, step):
        m = step[1]
        k = step[2]
        most = step[3]
        if outside(m, 1, MOST_NEAR) or outside(k, 0, m) or outside(most, 0, MOST_TOLD):
            return [-1]
        ends = near_ends(self.codes, read_bases(step[4:], 0, m), k)
        return [len(ends)] + ends[:most]

    def pile_read(self, step):
        n = step[1]
        place = step[2]
        length = step[3]
        if outside(n, 0, MOST_READ) or outside(place, 0, len(self.codes)) or outside(length, 0, MOST_LETTERS):
            return [-1]
        begin = 4 + bytes_for(n)
        codes = read_bases(step[4:begin], 0, n)
        qualities = step[begin:begin + n]
        way = step[begin + n:begin + n + length]
        if not self.reads.fits(codes, qualities, way, place):
            return [-1]
        self.reads.pile(codes, qualities, way, place)
        return [0]

    def tell_said(self, step):
        begin = step[1]
        end = step[2]
        if outside(begin, 0, len(self.codes)) or outside(end, begin, len(self.codes)):
            return [-1]
        return [0] + [self.reads.said_at(place) for place in range(begin, end)]

    def tell_depth(self, step):
        begin = step[1]
        end = step[2]
        if outside(begin, 0, len(self.codes)) or outside(end, begin + 1, len(self.codes)):
            return [-1]
        depths = [self.reads.depth_at(place) for place in range(begin, end)]
        return [0, min(depths), max(depths)]


def lay(step):
    n = step[1]
    m = step[2]
    most = step[7]
    if outside(n, 0, MOST_LAID) or outside(m, 0, MOST_LAID) or outside(most, 0, MOST_TOLD):
        return [-1]
    for score in step[3:7]:
        if outside(score, 0, MOST_SCORE):
            return [-1]
    begin = 8 + bytes_for(n)
    a = read_bases(step[8:begin], 0, n)
    b = read_bases(step[begin:], 0, m)
    best = best_way(a, b, Scores(step[3], step[4], step[5], step[6]))
    if len(best[1]) > most:
        return [-2]
    return [len(best[1])] + best[0] + best[1]
