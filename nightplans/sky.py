"""Where a star stands at a moment: its place, its altitude at a site, and how far apart two places are."""

from nightplans.angles import ONE, TURN, arcsin, cosine, halve, sine

YEAR = 31557600
CENTURY = 3155760000


def sidereal_time(moment):
    return (1009658226 + moment * 1299548330518644 // 86400000000) % TURN


def vector_of(longitude, latitude):
    across = cosine(latitude)
    return (across * cosine(longitude) // ONE, across * sine(longitude) // ONE, sine(latitude))


def turned_y(vector, angle):
    x, y, z = vector
    sin_a = sine(angle)
    cos_a = cosine(angle)
    return ((x * cos_a + z * sin_a) // ONE, y, (z * cos_a - x * sin_a) // ONE)


def turned_z(vector, angle):
    x, y, z = vector
    sin_a = sine(angle)
    cos_a = cosine(angle)
    return ((x * cos_a - y * sin_a) // ONE, (x * sin_a + y * cos_a) // ONE, z)


def place(star, moment):
    """The vector of a star at a moment, in the system of that moment."""
    p = 2306218 * moment // CENTURY
    n = 2004311 * moment // CENTURY
    longitude = star.right_ascension + star.right_ascension_motion * moment // YEAR
    latitude = star.declination + star.declination_motion * moment // YEAR
    vector = turned_z(vector_of(longitude, latitude), p)
    return turned_z(turned_y(vector, -n), p)


def altitude(vector, moment, site_longitude, site_latitude):
    x, y, z = turned_z(vector, -(sidereal_time(moment) + site_longitude))
    return arcsin((x * cosine(site_latitude) + z * sine(site_latitude)) // ONE)


def separation(one, other):
    square = sum([(a - b) * (a - b) for a, b in zip(one, other)])
    # No two vectors are as far as four units from one another.
    distance = halve(lambda tried: tried * tried <= square, 0, 4 * ONE)
    return 2 * arcsin(min(ONE, distance // 2))
