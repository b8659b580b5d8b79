"""Calls as they lie in the one list, for the tests."""

from nightplans.telescope import answers

QUARTER = 324000000
POLES = "a 00:00:00.000 +90:00:00.000 1 0 0\nb 00:00:00.000 +89:00:00.000 1 0 0"


def load(text):
    return load_bytes(list(text.encode("ascii")))


def load_bytes(codes):
    return [0, len(codes)] + list(codes)


def night(t=0, minutes=240, longitude=0, latitude=QUARTER, altitude=-QUARTER, speed=60000):
    """By default a night of 240 minutes in which every star is high enough."""
    return [1, t, minutes, longitude, latitude, altitude, speed]


def observe(star=0, duration=1, value=1, first=0, last=240):
    return [2, star, duration, value, first, last]


def close(a, b):
    return [3, a, b]


def starts(observation):
    return [4, observation]


def results(*calls):
    """The answers to some calls of one session, a list for each call."""
    flat = answers(sum(calls, []))
    parts = []
    place = 0
    while place < len(flat):
        end = place + 1 + flat[place]
        parts.append(flat[place + 1:end])
        place = end
    if len(parts) != len(calls):
        raise AssertionError(f"{len(calls)} calls, but {len(parts)} answers")
    return parts


def last_result(*calls):
    return results(*calls)[-1]
