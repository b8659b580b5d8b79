"""Angles in thousandths of an arc second; sines and cosines scaled by ONE."""

TURN = 1296000000
HALF_TURN = 648000000
QUARTER = 324000000
ONE = 1000000000000000000
PI = 3141592653589793238
LATER_TERMS = 11


def alternating_sum(term, square, n):
    """The sum of a term and its eleven successors, with signs in turn."""
    total = term
    sign = -1
    for step in range(n, n + 2 * LATER_TERMS, 2):
        term = term * square // ONE // (step * (step + 1))
        total += sign * term
        sign = -sign
    return total


def scaled_arc(angle):
    return angle * PI // HALF_TURN


def sine_series(angle):
    """S of the document, for an angle up to half a quarter."""
    arc = scaled_arc(angle)
    return alternating_sum(arc, arc * arc // ONE, 2)


def cosine_series(angle):
    """C of the document, for an angle up to half a quarter."""
    arc = scaled_arc(angle)
    return alternating_sum(ONE, arc * arc // ONE, 1)


def quarter_sine(angle):
    if 2 * angle <= QUARTER:
        return sine_series(angle)
    return cosine_series(QUARTER - angle)


def quarter_cosine(angle):
    if 2 * angle <= QUARTER:
        return cosine_series(angle)
    return sine_series(QUARTER - angle)


def sine(angle):
    quarters, rest = divmod(angle % TURN, QUARTER)
    if quarters == 0:
        return quarter_sine(rest)
    if quarters == 1:
        return quarter_cosine(rest)
    if quarters == 2:
        return -quarter_sine(rest)
    return -quarter_cosine(rest)


def cosine(angle):
    # The document's row of cosines is its row of sines, one quarter further on.
    return sine(angle + QUARTER)


def halve(holds, low, high):
    """The last number from low on that holds, where high is known not to."""
    while high - low > 1:
        middle = (low + high) // 2
        if holds(middle):
            low = middle
        else:
            high = middle
    return low


def arcsin(value):
    size = abs(value)
    angle = halve(lambda tried: sine(tried) <= size, 0, QUARTER + 1)
    if value < 0:
        return -angle
    return angle
