"""The calls: each takes lists and whole numbers and gives back one list of whole numbers."""

from genomereads.distances import fewest_edits
from genomereads.limits import MOST_BASES, MOST_TOLD, outside
from genomereads.packing import CAPITALS, other_strand, read_bases, write_bases
from genomereads.qualities import GREATEST_QUALITY, best_stretch, first_other_byte
from genomereads.steps import Genome
from genomereads.words import MOST_IN_WINDOW, MOST_IN_WORD, least_places, stirred, words_of

MOST_EDITED = 4096
MOST_SHARED = 4096
BASE_OF_LETTER = {65: 0, 67: 1, 71: 2, 84: 3, 97: 0, 99: 1, 103: 2, 116: 3}


def pack(letters):
    codes = []
    for place, letter in enumerate(letters):
        if letter not in BASE_OF_LETTER:
            # Places count from 0, and a 0 at the front would say that all went well.
            return [place + 1]
        codes.append(BASE_OF_LETTER[letter])
    return answer(0, write_bases(codes))


def unpack(bases, n):
    if outside(n, 0, MOST_BASES):
        return [-1]
    return answer(0, [CAPITALS[code] for code in read_bases(bases, 0, n)])


def turn(bases, n):
    if outside(n, 0, MOST_BASES):
        return [-1]
    return answer(0, write_bases(other_strand(read_bases(bases, 0, n))))


def count(bases, n, begin, end):
    if outside(n, 0, MOST_BASES) or outside(begin, 0, n) or outside(end, begin, n):
        return [-1]
    counts = [0, 0, 0, 0]
    for code in read_bases(bases, begin, end - begin):
        counts[code] += 1
    return answer(0, counts)


def same(a, i, b, j, n):
    if outside(i, 0, MOST_BASES) or outside(j, 0, MOST_BASES) or outside(n, 0, MOST_BASES):
        return [-1]
    equal = 0
    for left, right in zip(read_bases(a, i, n), read_bases(b, j, n)):
        if left == right:
            equal += 1
    return [equal]


def words(bases, n, k):
    if outside(n, 0, MOST_BASES) or outside(k, 1, MOST_IN_WORD):
        return [-1]
    found = words_of(read_bases(bases, 0, n), k)
    return answer(len(found), found)


def minimizers(bases, n, k, w, most):
    if outside(n, 0, MOST_BASES) or outside(k, 1, MOST_IN_WORD):
        return [-1]
    if outside(w, 1, MOST_IN_WINDOW) or outside(most, 0, MOST_TOLD):
        return [-1]
    found = words_of(read_bases(bases, 0, n), k)
    places = least_places([stirred(word) for word in found], w)
    return answer(len(places), places[:most])


def shared(a, b):
    if len(a) > MOST_SHARED or len(b) > MOST_SHARED:
        return [-1]
    # A dict is asked at once, where a list would be gone through for each number.
    known = {}
    for number in b:
        known[number] = True
    return [len([number for number in a if number in known])]


def edits(a, n, b, m):
    if outside(n, 0, MOST_EDITED) or outside(m, 0, MOST_EDITED):
        return [-1]
    return [fewest_edits(read_bases(a, 0, n), read_bases(b, 0, m))]


def trim(qualities, least):
    if outside(least, 0, GREATEST_QUALITY):
        return [-1]
    other = first_other_byte(qualities)
    if other < len(qualities):
        return [other + 1]
    return answer(0, best_stretch(qualities, least))


def genome(bases, n, steps):
    if outside(n, 0, MOST_BASES):
        return [-1]
    made_of = Genome(read_bases(bases, 0, n))
    told = []
    for place, step in enumerate(steps):
        part = made_of.make(step)
        if place > 0:
            told.append(len(part))
        told.extend(part)
    return told


def answer(first, part):
    # The length stands there for an empty part too, so that every accepted answer has one form.
    return [first, len(part)] + part
