"""Plans of a night: the mistakes of a list of entries, and the best plan from a start."""

NO_SUCH_OBSERVATION = 1
OCCURS_BEFORE = 2
CANNOT_BEGIN = 3
NOT_READY = 4


def first_mistake(night, entries):
    """The place and the mistake of the first entry that has one, or None.

    The start is minute 0 without a star; an entry is a pair of an observation and a minute.
    """
    for position in range(len(entries)):
        mistake = mistake_of(night, entries, position)
        if mistake > 0:
            return (position, mistake)
    return None


def mistake_of(night, entries, position):
    """The mistake of an entry behind others that have none, or 0."""
    number, minute = entries[position]
    if number >= len(night.observations):
        return NO_SUCH_OBSERVATION
    if number in [earlier for earlier, begin in entries[:position]]:
        return OCCURS_BEFORE
    if not night.can_begin(night.observations[number], minute):
        return CANNOT_BEGIN
    if position > 0:
        before, begin = entries[position - 1]
        end = begin + night.observations[before].duration
        if minute < end + slew_between(night, before, number):
            return NOT_READY
    return 0


def slew_between(night, before, number):
    """The slew between the stars of two observations."""
    return night.slew(night.observations[before].star, night.observations[number].star)


def value_of(night, numbers):
    return sum([night.observations[number].value for number in numbers])


class Plans:
    """The plans of a night from a start, by the earliest ends of their sets of observations.

    A set is the sum of 2^i over its observations i. The star of the start may be None.
    """

    def __init__(self, tonight, minute, star):
        self.tonight = tonight
        self.minute = minute
        self.star = star
        self.begins = [tonight.beginnings(observation) for observation in tonight.observations]
        self.ends = {}
        # The number of a set is greater than those of its parts, whose ends it is found from.
        for chosen in range(1, 1 << len(self.begins)):
            for last in members(chosen):
                self.find_end(chosen, last)

    def find_end(self, chosen, last):
        """Keeps the earliest end of a set with its last observation, if there is such a plan."""
        readies = [ready for before, ready in self.ways_to(last, chosen - (1 << last))]
        if len(readies) == 0:
            return
        begin = first_from(self.begins[last], min(readies))
        if begin is not None:
            self.ends[(chosen, last)] = begin + self.tonight.observations[last].duration

    def ways_to(self, number, others):
        """Which one of the others may come just before an observation, and when the telescope is ready then.

        The pairs ascend by the one before, which is None behind the start.
        """
        if others == 0:
            return [(None, self.ready_first(number))]
        ways = []
        for before in members(others):
            if (others, before) in self.ends:
                ready = self.ends[(others, before)] + slew_between(self.tonight, before, number)
                ways.append((before, ready))
        return ways

    def ready_first(self, number):
        if self.star is None:
            return self.minute
        return self.minute + self.tonight.slew(self.star, self.tonight.observations[number].star)

    def best(self, allowed):
        """The entries of the best plan whose set is allowed, or None if there is no such plan."""
        ranks = []
        for chosen in range(1 << len(self.begins)):
            if allowed(chosen):
                value = value_of(self.tonight, members(chosen))
                ranks.extend([(-value, end, chosen) for end, last in self.ends_of(chosen)])
        if len(ranks) == 0:
            return None
        return self.entries_of(min(ranks)[2])

    def ends_of(self, chosen):
        """The earliest ends of a set, each with its last observation."""
        if chosen == 0:
            return [(0, None)]
        return [(self.ends[(chosen, last)], last) for last in members(chosen) if (chosen, last) in self.ends]

    def entries_of(self, chosen):
        """The plan of a set that has one, found from its last observation to its first."""
        backwards = []
        left = chosen
        last = min(self.ends_of(chosen))[1]
        while left > 0:
            begin = self.ends[(left, last)] - self.tonight.observations[last].duration
            backwards.append((last, begin))
            left -= 1 << last
            last = [before for before, ready in self.ways_to(last, left) if ready <= begin][0]
        return list(reversed(backwards))


def members(chosen):
    """The observations of a set, in ascending order."""
    return [number for number in range(chosen.bit_length()) if (chosen >> number) % 2 == 1]


def first_from(minutes, ready):
    """The first of ascending minutes that is not before another one, or None."""
    for minute in minutes:
        if minute >= ready:
            return minute
    return None
