import unittest

from calls import BRIGHT, POLES, QUARTER, ROW, last_result, load, night, observe, results, slew

SIX = [observe(number) for number in range(6)]
AROUND = """
n  00:00:00.000 +90:00:00.000 1 0 0
s  00:00:00.000 -90:00:00.000 1 0 0
e  06:00:00.000 +00:00:00.000 1 0 0
w  18:00:00.000 +00:00:00.000 1 0 0
n2 05:00:00.000 +90:00:00.000 1 0 0
"""


def slews(before, *pairs):
    """The slews between pairs of observations, after some calls."""
    answered = results(*before, *[slew(i, j) for i, j in pairs])[len(before):]
    return [number for [number] in answered]


class Slew(unittest.TestCase):
    def test_a_row_of_stars(self):
        before = [load(ROW), night(), *SIX]
        self.assertEqual(slews(before, *[(0, j) for j in range(6)]), [0, 1, 2, 3, 4, 5])
        self.assertEqual(slews(before, *[(i, 5) for i in range(6)]), [5, 4, 3, 2, 1, 0])

    def test_rounded_up(self):
        for speed, near, far in (
            (1, 60000, 120000), (29999, 3, 5), (30000, 2, 4), (30001, 2, 4), (59999, 2, 3), (60000, 1, 2),
            (60001, 1, 2), (119999, 1, 2), (120000, 1, 1), (3600000, 1, 1), (100000000, 1, 1),
        ):
            with self.subTest(speed=speed):
                before = [load(ROW), night(speed=speed), *SIX]
                self.assertEqual(slews(before, (0, 1), (1, 2), (0, 2)), [near, near, far])

    def test_the_slowest_and_the_fastest_telescope(self):
        pairs = [(0, 1), (1, 0), (2, 3), (0, 2), (3, 1), (0, 4)]
        for speed, expected in (
            (1, [10800000, 10800000, 10800000, 5400000, 5400000, 0]),
            (10799999, [2, 2, 2, 1, 1, 0]),
            (10800000, [1, 1, 1, 1, 1, 0]),
            (100000000, [1, 1, 1, 1, 1, 0]),
        ):
            with self.subTest(speed=speed):
                before = [load(AROUND), night(speed=speed), *[observe(number) for number in range(5)]]
                self.assertEqual(slews(before, *pairs), expected)

    def test_between_observations_of_one_star(self):
        for speed in (1, 60000, 100000000):
            before = [load(BRIGHT), night(speed=speed), observe(3), observe(3, 60), observe(0)]
            self.assertEqual(slews(before, (0, 0), (0, 1), (1, 0), (1, 1), (2, 2)), [0, 0, 0, 0, 0])

    def test_observations_not_stars_are_numbered(self):
        before = [load(ROW), night(), observe(5), observe(3), observe(0)]
        self.assertEqual(slews(before, (0, 1), (0, 2), (1, 2)), [2, 5, 3])

    def test_places_at_the_first_moment(self):
        observed = [observe(star) for star in (0, 1, 2, 4, 5, 0)]
        pairs = [(0, 1), (1, 2), (2, 3), (3, 4), (4, 5), (5, 0), (0, 2)]
        for t, expected in (
            (0, [9471570, 6975959, 3358515, 5145900, 3094370, 0, 3547223]),
            (1000000000, [9472092, 6975664, 3356660, 5140454, 3094221, 0, 3548350]),
            (-1000000000, [9471049, 6976254, 3360379, 5151346, 3094519, 0, 3546095]),
            (10000000000, [9476784, 6972978, 3340383, 5091441, 3092881, 0, 3558505]),
            (-10000000000, [9466350, 6978875, 3377571, 5200359, 3095859, 0, 3535959]),
        ):
            with self.subTest(t=t):
                self.assertEqual(slews([load(BRIGHT), night(t=t, speed=1), *observed], *pairs), expected)

    def test_stars_below_the_least_altitude_too(self):
        before = [load(ROW), night(altitude=QUARTER, latitude=0), *SIX]
        self.assertEqual(slews(before, (0, 1), (5, 1)), [1, 4])

    def test_a_new_night_has_its_own_slews(self):
        before = [load(ROW), night(), observe(0), observe(2)]
        again = [night(speed=30000), observe(0), observe(2)]
        self.assertEqual(results(*before, slew(0, 1), *again, slew(0, 1))[4::4], [[2], [4]])

    def test_errors(self):
        self.assertEqual(last_result(slew(0, 0)), [-5])
        self.assertEqual(last_result(load(POLES), slew(7, 7)), [-5])
        self.assertEqual(last_result(load(POLES), night(), slew(0, 0)), [-3])
        before = [load(POLES), night(), observe(0), observe(1)]
        for i, j, answer in (
            (0, 1, 1), (1, 1, 0), (0, 2, -3), (2, 0, -3), (1, 2, -3), (2, 2, -3), (10 ** 11, 0, -3), (0, 10 ** 11, -3),
        ):
            with self.subTest(i=i, j=j):
                self.assertEqual(last_result(*before, slew(i, j)), [answer])

    def test_after_a_new_catalogue(self):
        self.assertEqual(last_result(load(POLES), night(), observe(0), load(POLES), slew(0, 0)), [-5])
        self.assertEqual(last_result(load(POLES), night(), observe(0), load("x"), slew(0, 0)), [0])


if __name__ == "__main__":
    unittest.main()
