"""Qualities as bytes, and the stretch of them that is worth most."""

LEAST_BYTE = 33
GREATEST_BYTE = 126
GREATEST_QUALITY = 93


def first_other_byte(qualities):
    for place, byte in enumerate(qualities):
        if byte < LEAST_BYTE or byte > GREATEST_BYTE:
            return place
    # A place that no byte has, so that the answer is a number in any case.
    return len(qualities)


def best_stretch(qualities, least):
    best = [0, 0]
    greatest = 0
    begin = 0
    total = 0
    for place, byte in enumerate(qualities):
        total += byte - LEAST_BYTE - least
        if total < 0:
            # What has lost more than it won is worth nothing ahead of a stretch. At 0 it stays: it begins sooner.
            total = 0
            begin = place + 1
        elif total > greatest:
            greatest = total
            best = [begin, place + 1]
    return best
