"""How loud a note is, k samples behind its beginning."""

FULL = 256
LEAST_HELD = 64
HELD_FALL = 128
FADE_FALL = 1024


def held_loud(k, rate):
    return max(LEAST_HELD, FULL - HELD_FALL * k // rate)


# How many samples behind its end a note is at 0, where it stays; the end is counted from the beginning.
def fade_size(end, rate):
    return (held_loud(end, rate) * rate + FADE_FALL - 1) // FADE_FALL


# For each k from start to stop, stop left out, which doesn't lie behind the fade.
def loud_row(start, stop, end, rate):
    row = held_row(start, min(stop, end), rate)
    at_end = held_loud(end, rate)
    row.extend([at_end - FADE_FALL * (k - end) // rate for k in range(max(start, end), stop)])
    return row


# Most of a long note is as loud as its least, which is not reckoned again for every sample.
def held_row(start, stop, rate):
    steady = ((FULL - LEAST_HELD) * rate + HELD_FALL - 1) // HELD_FALL
    row = [FULL - HELD_FALL * k // rate for k in range(start, min(stop, steady))]
    row.extend([LEAST_HELD] * (stop - max(start, steady)))
    return row
