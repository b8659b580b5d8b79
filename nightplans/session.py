"""A session: a catalogue, at most one night, and the calls that change or ask them."""

from nightplans.angles import HALF_TURN, QUARTER
from nightplans.catalogue import LINE_FEED, TextError, read_catalogue
from nightplans.night import Night, Observation, ranges_of
from nightplans.plans import Plans, first_mistake, members, value_of

# Codes of errors; each is answered with a minus.
BAD_TEXT = 1
OUT_OF_RANGE = 2
NOT_THERE = 3
NO_PLAN = 4
NO_NIGHT = 5
TOO_MANY = 6
MISTAKE = 7
ERROR_IN_TEXT = 10

MOST_BYTES = 6000
MOST_MOMENT = 10000000000
MOST_MINUTES = 240
MOST_SPEED = 100000000
MOST_DURATION = 60
MOST_VALUE = 1000
MOST_OBSERVATIONS = 6
MOST_CLOSED = 5


class Session:
    """Each method is one call of the document and answers with its list of numbers."""

    def __init__(self):
        self.stars = []
        self.tonight = None

    def load(self, text):
        if len(text) > MOST_BYTES or not all([is_allowed(code) for code in text]):
            return [-BAD_TEXT]
        try:
            stars = read_catalogue(text)
        except TextError as error:
            return [-(ERROR_IN_TEXT + error.kind), error.line]
        self.stars = stars
        self.tonight = None
        return [len(stars)]

    def night(self, moment, minutes, longitude, latitude, least_altitude, speed):
        if abs(moment) > MOST_MOMENT or not 1 <= minutes <= MOST_MINUTES:
            return [-OUT_OF_RANGE]
        if abs(longitude) > HALF_TURN or abs(latitude) > QUARTER or abs(least_altitude) > QUARTER:
            return [-OUT_OF_RANGE]
        if not 1 <= speed <= MOST_SPEED:
            return [-OUT_OF_RANGE]
        self.tonight = Night(self.stars, moment, minutes, longitude, latitude, least_altitude, speed)
        return [0]

    def observe(self, star, duration, value, first, last):
        if self.tonight is None:
            return [-NO_NIGHT]
        if star >= len(self.stars):
            return [-NOT_THERE]
        if not 1 <= duration <= MOST_DURATION or not 1 <= value <= MOST_VALUE or last > MOST_MINUTES:
            return [-OUT_OF_RANGE]
        number = len(self.tonight.observations)
        if number == MOST_OBSERVATIONS:
            return [-TOO_MANY]
        self.tonight.observations.append(Observation(star, duration, value, first, last))
        return [number]

    def close(self, begin, end):
        if self.tonight is None:
            return [-NO_NIGHT]
        if begin >= end or end > MOST_MINUTES:
            return [-OUT_OF_RANGE]
        if len(self.tonight.closed) == MOST_CLOSED:
            return [-TOO_MANY]
        self.tonight.closed.append((begin, end))
        return [len(self.tonight.closed)]

    def starts(self, number):
        if self.tonight is None:
            return [-NO_NIGHT]
        if number >= len(self.tonight.observations):
            return [-NOT_THERE]
        ranges = ranges_of(self.tonight.beginnings(self.tonight.observations[number]))
        answer = [len(ranges)]
        for first, last in ranges:
            answer.extend([first, last])
        return answer

    def slew(self, i, j):
        if self.tonight is None:
            return [-NO_NIGHT]
        observations = self.tonight.observations
        if max(i, j) >= len(observations):
            return [-NOT_THERE]
        return [self.tonight.slew(observations[i].star, observations[j].star)]

    def plan(self):
        if self.tonight is None:
            return [-NO_NIGHT]
        return plan_answer(self.tonight, Plans(self.tonight, 0, None).best(lambda chosen: True))

    def check(self, numbers):
        if self.tonight is None:
            return [-NO_NIGHT]
        if len(numbers) % 2 == 1:
            return [-OUT_OF_RANGE]
        entries = list(zip(numbers[0::2], numbers[1::2]))
        found = first_mistake(self.tonight, entries)
        if found is not None:
            return [-MISTAKE, found[0], found[1]]
        return [value_of(self.tonight, numbers[0::2])]

    def plan_with(self, number):
        if self.tonight is None:
            return [-NO_NIGHT]
        if number >= len(self.tonight.observations):
            return [-NOT_THERE]
        entries = Plans(self.tonight, 0, None).best(lambda chosen: number in members(chosen))
        if entries is None:
            return [-NO_PLAN]
        return plan_answer(self.tonight, entries)

    def rest(self, minute, at, done):
        if self.tonight is None:
            return [-NO_NIGHT]
        observations = self.tonight.observations
        if at > len(observations) or any([number >= len(observations) for number in done]):
            return [-NOT_THERE]
        star = None
        if at > 0:
            star = observations[at - 1].star
        plans = Plans(self.tonight, minute, star)
        entries = plans.best(lambda chosen: not any([number in done for number in members(chosen)]))
        return plan_answer(self.tonight, entries)


def plan_answer(night, entries):
    answer = [value_of(night, [number for number, minute in entries]), len(entries)]
    for number, minute in entries:
        answer.extend([number, minute])
    return answer


def is_allowed(code):
    return code == LINE_FEED or 32 <= code <= 126
