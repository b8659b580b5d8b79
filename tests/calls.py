"""Calls as they lie in the one list, for the tests."""

from nightplans.telescope import answers

QUARTER = 324000000
POLES = "a 00:00:00.000 +90:00:00.000 1 0 0\nb 00:00:00.000 +89:00:00.000 1 0 0"
# Six stars in a row, a degree apart: a minute for the telescope, if its speed is 60000.
ROW = "\n".join([f"s{number} 00:00:00.000 +{90 - number}:00:00.000 1 0 0" for number in range(6)])
BRIGHT = """
vega      18:36:56.336 +38:47:01.280  0.03   201    286
sirius    06:45:08.917 -16:42:58.017 -1.46  -546  -1223
arcturus  14:15:39.672 +19:10:56.673 -0.05 -1093  -1999
capella   05:16:41.359 +45:59:52.769  0.08    75   -426
barnard   17:57:48.499 +04:41:36.111  9.54  -799  10328
polaris   02:31:49.095 +89:15:50.792  1.98    44    -12
deneb     20:41:25.915 +45:16:49.220  1.25     2      2
altair    19:50:46.999 +08:52:05.956  0.76   536    385
"""


def load(text):
    return load_bytes(list(text.encode("ascii")))


def load_bytes(codes):
    return [0, len(codes)] + list(codes)


def night(t=0, minutes=240, longitude=0, latitude=QUARTER, altitude=-QUARTER, speed=60000):
    """By default a night of 240 minutes in which every star is high enough."""
    return [1, t, minutes, longitude, latitude, altitude, speed]


def observe(star=0, duration=1, value=1, first=0, last=240):
    return [2, star, duration, value, first, last]


def close(a, b):
    return [3, a, b]


def starts(observation):
    return [4, observation]


def slew(i, j):
    return [5, i, j]


def plan():
    return [6]


def check(*entries):
    return [7, len(entries), *entries]


def plan_with(observation):
    return [8, observation]


def rest(minute, at, *done):
    return [9, minute, at, len(done), *done]


def results(*calls):
    """The answers to some calls of one session, a list for each call."""
    flat = answers(sum(calls, []))
    parts = []
    place = 0
    while place < len(flat):
        end = place + 1 + flat[place]
        parts.append(flat[place + 1:end])
        place = end
    if len(parts) != len(calls):
        raise AssertionError(f"{len(calls)} calls, but {len(parts)} answers")
    return parts


def last_result(*calls):
    return results(*calls)[-1]
