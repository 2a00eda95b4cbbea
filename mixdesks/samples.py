"""Samples and gains: how they are rounded and held."""

LEAST_SAMPLE = -8388608
MOST_SAMPLE = 8388607
MOST_GAIN = 65535

# The gain that leaves a sample as loud as it came.
UNIT = 16384
HALF = 8192


# What is nearest to exact / UNIT; of two as near the even one.
def rounded(exact):
    # Both go down from below 0 too, so what is left is never below 0.
    below = exact // UNIT
    left = exact % UNIT
    if left > HALF or (left == HALF and below % 2 == 1):
        return below + 1
    return below


def held(sample):
    return max(LEAST_SAMPLE, min(MOST_SAMPLE, sample))
