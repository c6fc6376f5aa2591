"""Two pieces laid on one another with gaps: the way that is worth most, between any places.

Worths are kept as worths[j][i]: the greatest worth of a way that ends at place i of a and at place j of b, where a
way of no letters is worth 0. M leads from (i - 1, j - 1) to (i, j), I from (i - 1, j), D from (i, j - 1).
"""

LETTER_M = 77
LETTER_I = 73
LETTER_D = 68


class Scores:
    def __init__(self, alike, unlike, gap, more):
        self.alike = alike
        self.unlike = unlike
        self.gap = gap
        self.more = more

    def pair(self, x, y):
        if x == y:
            return self.alike
        return -self.unlike

    def row(self, length):
        return self.gap + self.more * length


# What max would say is written out here: this is done for each place of a at each place of b.
def worths_behind(before, ends_in_d, pairs, scores):
    more = scores.more
    first = scores.row(1)
    worth = 0
    # No row of I is open yet. One that is opened at worth 0 can stand for that, since no worth is less.
    in_i = -scores.gap
    worths = [0]
    ends = []
    for pair, corner, ahead, in_d in zip(pairs, before, before[1:], ends_in_d):
        in_d -= more
        if in_d < ahead - first:
            in_d = ahead - first
        in_i -= more
        if in_i < worth - first:
            in_i = worth - first
        worth = corner + pair
        if worth < in_d:
            worth = in_d
        if worth < in_i:
            worth = in_i
        if worth < 0:
            worth = 0
        worths.append(worth)
        ends.append(in_d)
    return (worths, ends)


def all_worths(a, b, scores):
    # Reckoned once for each base, as the same pairs come again with every place of b.
    pairs_with = []
    for base in range(4):
        pairs_with.append([scores.pair(x, base) for x in a])
    # No row of D is open yet, as with I.
    ends_in_d = [-scores.gap] * len(a)
    worths = [[0] * (len(a) + 1)]
    for base in b:
        behind = worths_behind(worths[-1], ends_in_d, pairs_with[base], scores)
        worths.append(behind[0])
        ends_in_d = behind[1]
    return worths


def best_end(worths):
    greatest = 0
    end = (0, 0)
    # Only a greater one counts anew, so of several ends the first in b stays, and of these index gives the first in a.
    for j, row in enumerate(worths):
        if max(row) > greatest:
            greatest = max(row)
            end = (row.index(greatest), j)
    return end


# Both lengths are the shortest there is, since a row ends backwards as soon as it can; 0 says that no row ends there.
def length_of_d(worths, i, j, scores):
    for length in range(1, j + 1):
        if worths[j - length][i] - scores.row(length) == worths[j][i]:
            return length
    return 0


def length_of_i(worths, i, j, scores):
    for length in range(1, i + 1):
        if worths[j][i - length] - scores.row(length) == worths[j][i]:
            return length
    return 0


def way_back(worths, a, b, scores, end):
    i = end[0]
    j = end[1]
    letters = []
    while worths[j][i] > 0:
        if worths[j - 1][i - 1] + scores.pair(a[i - 1], b[j - 1]) == worths[j][i]:
            letters.append(LETTER_M)
            i -= 1
            j -= 1
            continue
        length = length_of_d(worths, i, j, scores)
        if length > 0:
            letters.extend([LETTER_D] * length)
            j -= length
        else:
            length = length_of_i(worths, i, j, scores)
            letters.extend([LETTER_I] * length)
            i -= length
    return (i, j, list(reversed(letters)))


def best_way(a, b, scores):
    worths = all_worths(a, b, scores)
    end = best_end(worths)
    back = way_back(worths, a, b, scores, end)
    told = [worths[end[1]][end[0]], back[0], end[0], back[1], end[1]]
    return (told, back[2])
