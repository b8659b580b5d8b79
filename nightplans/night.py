"""A night: its observations, its closed times, when a star is high enough, and the slews between stars."""

from nightplans.sky import altitude, place, separation


class Observation:
    """A star, given by its number, to be observed between two minutes."""

    def __init__(self, star, duration, value, first, last):
        self.star = star
        self.duration = duration
        self.value = value
        self.first = first
        self.last = last


class Night:
    """A night over a list of stars, with no observations and no closed times at first."""

    def __init__(self, stars, moment, minutes, longitude, latitude, least_altitude, speed):
        self.stars = stars
        self.moment = moment
        self.minutes = minutes
        self.longitude = longitude
        self.latitude = latitude
        self.least_altitude = least_altitude
        self.speed = speed
        self.observations = []
        self.closed = []
        self.known_high = {}
        self.known_slews = {}

    def is_high(self, star, minute):
        # Many beginnings ask for the same minutes, and an altitude takes long.
        if (star, minute) not in self.known_high:
            self.known_high[(star, minute)] = self.altitude_at(star, minute) >= self.least_altitude
        return self.known_high[(star, minute)]

    def altitude_at(self, star, minute):
        moment = self.moment + 60 * minute
        vector = place(self.stars[star], moment)
        return altitude(vector, moment, self.longitude, self.latitude)

    def can_begin(self, observation, minute):
        end = minute + observation.duration
        if minute < observation.first or end > observation.last or end > self.minutes:
            return False
        if not self.is_free(minute, end):
            return False
        for observed in range(minute, end + 1):
            if not self.is_high(observation.star, observed):
                return False
        return True

    def is_free(self, begin, end):
        """Whether no closed time goes on between a beginning and an end."""
        for shut, reopened in self.closed:
            if end > shut and reopened > begin:
                return False
        return True

    def beginnings(self, observation):
        """All minutes at which an observation can begin, in ascending order."""
        return [minute for minute in range(self.minutes + 1) if self.can_begin(observation, minute)]

    def slew(self, one, other):
        """The minutes that the telescope needs between two stars, given by their numbers."""
        # The search for a plan asks for the same few slews again and again.
        if (one, other) not in self.known_slews:
            self.known_slews[(one, other)] = rounded_up(self.separation_of(one, other), 60 * self.speed)
        return self.known_slews[(one, other)]

    def separation_of(self, one, other):
        return separation(place(self.stars[one], self.moment), place(self.stars[other], self.moment))


def rounded_up(number, divisor):
    return -(-number // divisor)


def ranges_of(minutes):
    """Ascending minutes as pairs of the first and the last of successive ones."""
    ranges = []
    for minute in minutes:
        if len(ranges) > 0 and ranges[-1][1] == minute - 1:
            ranges[-1] = (ranges[-1][0], minute)
        else:
            ranges.append((minute, minute))
    return ranges
