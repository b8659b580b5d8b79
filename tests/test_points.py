"""The five points that the document requires, each over several nights."""

import itertools
import unittest

from calls import BRIGHT, ROW, check, close, last_result, load, night, observe, plan, rest, results, slew, starts

MIXED = [observe(0, 20, 30), observe(2, 15, 20), observe(3, 60, 90), observe(5, 30, 10), observe(7, 25, 40),
         observe(0, 60, 50)]
SHORT = [observe(6, 5, 7), observe(4, 12, 7), observe(0, 9, 3, 30, 200), observe(4, 30, 14, 0, 90), observe(5, 8, 2),
         observe(7, 20, 5, 100, 130)]
STEPS = [observe(0, 2, 3, 0, 6), observe(5, 3, 4, 1), observe(2, 1, 2, 4, 5), observe(3, 4, 6), observe(1, 2, 3)]
TWINS = [observe(2, 3, 2), observe(2, 3, 2), observe(4, 2, 2, 3), observe(0, 3, 2), observe(4, 5, 4), observe(2, 6, 4)]


def bright(t, altitude, speed, observed):
    return [load(BRIGHT), night(t, 240, 48000000, 186000000, altitude, speed), *observed]


# The calls ahead of the questions, and then closed times.
NIGHTS = [
    (bright(848980000, 108000000, 30000, MIXED), [(60, 70), (100, 130), (0, 50), (200, 240), (50, 200)]),
    (bright(849040000, 36000000, 30000, MIXED), [(10, 20), (40, 90), (200, 201), (150, 160), (0, 240)]),
    (bright(-3000000000, 144000000, 90000, MIXED), [(10, 11), (30, 31), (120, 121), (180, 181), (0, 239)]),
    (bright(848980000, 72000000, 400000, SHORT), [(30, 31), (60, 61), (90, 91), (5, 10), (100, 200)]),
    (bright(9999990000, -36000000, 1000000, SHORT), [(3, 4), (20, 60), (70, 71), (110, 120), (2, 240)]),
    ([load(ROW), night(minutes=14), *STEPS], [(5, 6), (2, 3), (9, 12), (0, 1), (6, 8)]),
    ([load(ROW), night(minutes=21, speed=59999), *STEPS], [(20, 21), (8, 10), (0, 3), (14, 15), (4, 8)]),
    ([load(ROW), night(minutes=17), *TWINS], [(3, 4), (10, 12), (16, 17), (0, 2), (6, 7)]),
    ([load(ROW), night(minutes=240, speed=1), *TWINS], [(0, 100), (102, 230), (236, 237), (100, 102), (238, 240)]),
    ([load(ROW), night(minutes=12, speed=100000000), *TWINS, close(5, 6)], [(11, 12), (0, 1), (4, 5), (7, 11)]),
]


def entries_of(answer):
    """A plan as pairs of an observation and its minute."""
    return list(zip(answer[2::2], answer[3::2]))


def flat(entries):
    return [number for entry in entries for number in entry]


class KnownNight:
    """A night, and what its calls starts, slew and plan answer."""

    def __init__(self, name, before, shut):
        self.name = name
        self.before = before
        self.shut = shut
        self.observed = [call for call in before if call[0] == 2]
        self.durations = [call[2] for call in self.observed]
        self.values = [call[3] for call in self.observed]
        numbers = range(len(self.observed))
        self.minutes = [minutes_of(answer) for answer in self.ask([starts(number) for number in numbers])]
        pairs = list(itertools.product(numbers, numbers))
        self.slews = dict(zip(pairs, [minutes for [minutes] in self.ask([slew(i, j) for i, j in pairs])]))
        [self.best] = self.ask([plan()])
        self.plans = list(self.earliest_plans())

    def ask(self, questions):
        """The answers to questions that change nothing, six of them in a session."""
        answers = []
        for begin in range(0, len(questions), 6):
            answers += results(*self.before, *questions[begin:begin + 6])[len(self.before):]
        return answers

    def check(self, plans):
        return self.ask([check(*flat(entries)) for entries in plans])

    def value(self, entries):
        return sum([self.values[number] for number, minute in entries])

    def earliest_plans(self):
        """For each order of each set: the plan in which each one begins as early as it can, if there is one."""
        for count in range(len(self.observed) + 1):
            for order in itertools.permutations(range(len(self.observed)), count):
                entries = self.earliest_plan(order)
                if len(entries) == count:
                    yield entries

    def earliest_plan(self, order):
        entries = []
        for number in order:
            ready = 0
            if entries:
                last, begin = entries[-1]
                ready = begin + self.durations[last] + self.slews[(last, number)]
            begin = min([minute for minute in self.minutes[number] if minute >= ready], default=None)
            if begin is None:
                return entries
            entries.append((number, begin))
        return entries


def minutes_of(answer):
    """The minutes of the ranges that starts answers."""
    return [minute for first, last in zip(answer[1::2], answer[2::2]) for minute in range(first, last + 1)]


class Points(unittest.TestCase):
    @classmethod
    def setUpClass(cls):
        cls.nights = [KnownNight(name, before, shut) for name, (before, shut) in enumerate(NIGHTS)]

    def test_1_the_best_plan_has_no_mistake(self):
        for known in self.nights:
            with self.subTest(night=known.name):
                entries = entries_of(known.best)
                self.assertEqual(known.best[:2], [known.value(entries), len(entries)])
                self.assertEqual(known.check([entries]), [known.best[:1]])

    def test_1_no_plan_without_a_mistake_has_a_greater_value(self):
        for known in self.nights:
            with self.subTest(night=known.name):
                self.assertEqual(known.best[0], max([known.value(entries) for entries in known.plans]))
                some = known.plans[::len(known.plans) // 20 + 1]
                self.assertEqual(known.check(some), [[known.value(entries)] for entries in some])

    def test_2_behind_its_first_observation_the_best_plan_is_the_best_for_the_rest(self):
        for known in self.nights:
            with self.subTest(night=known.name):
                first, begin = entries_of(known.best)[0]
                [left] = known.ask([rest(begin + known.durations[first], first + 1, first)])
                self.assertEqual(left[0], known.best[0] - known.values[first])

    def test_2_and_so_on_to_its_last_observation(self):
        for known in self.nights:
            with self.subTest(night=known.name):
                entries = entries_of(known.best)
                questions = []
                left = []
                for count, (number, begin) in enumerate(entries, start=1):
                    done = [observation for observation, minute in entries[:count]]
                    questions.append(rest(begin + known.durations[number], number + 1, *done))
                    left.append(known.best[0] - known.value(entries[:count]))
                self.assertEqual([answer[0] for answer in known.ask(questions)], left)

    def test_3_more_closed_times_never_increase_the_value(self):
        for known in self.nights:
            calls = [*known.before]
            for begin, end in known.shut:
                calls += [close(begin, end), plan()]
            values = known.best[:1] + [answer[0] for answer in results(*calls)[len(known.before) + 1::2]]
            with self.subTest(night=known.name):
                self.assertEqual(values, sorted(values, reverse=True))
                self.assertLess(values[-1], values[0])

    def test_4_the_beginning_of_a_plan_without_a_mistake_has_none(self):
        for known in self.nights:
            for entries in (entries_of(known.best), known.plans[-1]):
                with self.subTest(night=known.name, entries=entries):
                    beginnings = [entries[:count] for count in range(len(entries) + 1)]
                    self.assertEqual(known.check(beginnings), [[known.value(entries)] for entries in beginnings])

    def test_4_no_entry_takes_a_mistake_from_those_ahead_of_it(self):
        for known in self.nights:
            best = entries_of(known.best)
            wrong = [[*best[:place], (6, 0), *best[place:]] for place in range(len(best) + 1)]
            wrong += [[*best[:place], best[0], *best[place:]] for place in range(1, len(best) + 1)]
            for entries, answer in zip(wrong, known.check(wrong)):
                with self.subTest(night=known.name, entries=entries):
                    self.assertEqual(answer[0], -7)
                    with_it, without_it = entries[:answer[1] + 1], entries[:answer[1]]
                    self.assertEqual(known.check([with_it, without_it]), [answer, [known.value(without_it)]])

    def test_5_slews_dont_depend_on_the_direction(self):
        for known in self.nights:
            for i, j in known.slews:
                with self.subTest(night=known.name, i=i, j=j):
                    self.assertEqual(known.slews[(i, j)], known.slews[(j, i)])

    def test_5_there_is_no_slew_from_a_star_to_itself_and_else_there_is_one(self):
        for known in self.nights:
            for (i, j), minutes in known.slews.items():
                with self.subTest(night=known.name, i=i, j=j):
                    self.assertEqual(minutes == 0, known.observed[i][1] == known.observed[j][1])


if __name__ == "__main__":
    unittest.main()
