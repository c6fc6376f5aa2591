"""Words: the numbers that k bases next to each other stand for, and the least of each window of them."""

MOST_IN_WORD = 31
MOST_IN_WINDOW = 256


def words_of(codes, k):
    lower = (1 << (2 * (k - 1))) - 1
    forward = 0
    backward = 0
    found = []
    for place, code in enumerate(codes):
        # On the other strand the bases come the other way round: the newest one stands highest.
        forward = ((forward & lower) << 2) | code
        backward = (backward >> 2) | ((3 - code) << (2 * (k - 1)))
        if place >= k - 1:
            found.append(min(forward, backward))
    return found


def stirred(x):
    x = x ^ (x >> 33)
    x = x * 0xff51afd7ed558ccd % 2 ** 64
    x = x ^ (x >> 33)
    x = x * 0xc4ceb9fe1a85ec53 % 2 ** 64
    return x ^ (x >> 33)


def least_places(numbers, w):
    places = []
    # Places that may still hold the least of a window, their numbers not falling; those ahead of head are past.
    waiting = []
    head = 0
    for place, number in enumerate(numbers):
        # An equal number stays, since the first of the least is asked for.
        while len(waiting) > head and numbers[waiting[-1]] > number:
            waiting.pop()
        waiting.append(place)
        if waiting[head] <= place - w:
            head += 1
        if place >= w - 1 and (len(places) == 0 or places[-1] != waiting[head]):
            places.append(waiting[head])
    return places
