"""Words: the numbers that k bases next to each other stand for."""

MOST_IN_WORD = 31


def words_of(codes, k):
    lower = (1 << (2 * (k - 1))) - 1
    forward = 0
    backward = 0
    found = []
    for place, code in enumerate(codes):
        # On the other strand the bases come the other way round: the newest one stands highest.
        forward = ((forward & lower) << 2) | code
        backward = (backward >> 2) | ((3 - code) << (2 * (k - 1)))
        if place >= k - 1:
            found.append(min(forward, backward))
    return found
