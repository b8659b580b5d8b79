import unittest

from calls import POLES, close, last_result, load, night, observe, results, starts

SKY = (
    "vega 18:36:56.336 +38:47:01.280 0.03 201 286\n"
    "sirius 06:45:08.917 -16:42:58.017 -1.46 -546 -1223"
)


def starts_of(observation, *closed, minutes=10):
    return last_result(load(POLES), night(minutes=minutes), observation, *closed, starts(0))


class Starts(unittest.TestCase):
    def test_errors(self):
        self.assertEqual(last_result(starts(0)), [-5])
        self.assertEqual(last_result(load(POLES), starts(9)), [-5])
        self.assertEqual(last_result(load(POLES), night(), starts(0)), [-3])
        begun = [load(POLES), night(minutes=2), observe(0), observe(1)]
        self.assertEqual(last_result(*begun, starts(1)), [1, 0, 1])
        self.assertEqual(last_result(*begun, starts(2)), [-3])
        self.assertEqual(last_result(*begun, starts(10 ** 11)), [-3])

    def test_ends_with_the_night(self):
        self.assertEqual(starts_of(observe(0, 10)), [1, 0, 0])
        self.assertEqual(starts_of(observe(0, 11)), [0])
        self.assertEqual(starts_of(observe(0, 1), minutes=1), [1, 0, 0])
        self.assertEqual(starts_of(observe(0, 1), minutes=240), [1, 0, 239])
        self.assertEqual(starts_of(observe(0, 60), minutes=240), [1, 0, 180])

    def test_from_and_to(self):
        self.assertEqual(starts_of(observe(0, 2, 1, 3, 7)), [1, 3, 5])
        self.assertEqual(starts_of(observe(0, 4, 1, 3, 7)), [1, 3, 3])
        self.assertEqual(starts_of(observe(0, 5, 1, 3, 7)), [0])
        self.assertEqual(starts_of(observe(0, 1, 1, 9, 240)), [1, 9, 9])
        self.assertEqual(starts_of(observe(0, 1, 1, 10, 240)), [0])
        self.assertEqual(starts_of(observe(0, 1, 1, 10 ** 11, 240)), [0])
        self.assertEqual(starts_of(observe(0, 1, 1, 0, 0)), [0])
        self.assertEqual(starts_of(observe(0, 1, 1, 0, 1)), [1, 0, 0])

    def test_closed_times(self):
        self.assertEqual(starts_of(observe(0, 2), close(4, 6)), [2, 0, 2, 6, 8])
        self.assertEqual(starts_of(observe(0, 2), close(4, 5)), [2, 0, 2, 5, 8])
        self.assertEqual(starts_of(observe(0, 2), close(1, 3), close(5, 6)), [2, 3, 3, 6, 8])
        self.assertEqual(starts_of(observe(0, 2), close(5, 6), close(1, 3)), [2, 3, 3, 6, 8])
        self.assertEqual(starts_of(observe(0, 1), close(1, 2), close(3, 4), close(5, 6), close(7, 8)),
                         [5, 0, 0, 2, 2, 4, 4, 6, 6, 8, 9])
        self.assertEqual(starts_of(observe(0, 1), close(1, 2), close(2, 3)), [2, 0, 0, 3, 9])
        self.assertEqual(starts_of(observe(0, 1), close(0, 10)), [0])
        self.assertEqual(starts_of(observe(0, 1), close(10, 11)), [1, 0, 9])
        self.assertEqual(starts_of(observe(0, 3), close(0, 2), close(4, 240)), [0])

    def test_a_closed_time_within_an_observation(self):
        self.assertEqual(starts_of(observe(0, 9), close(4, 5)), [0])
        self.assertEqual(starts_of(observe(0, 4), close(4, 5)), [2, 0, 0, 5, 6])

    def test_later_closed_times_count_at_once(self):
        session = results(load(POLES), night(minutes=4), observe(0), starts(0), close(0, 2), starts(0))
        self.assertEqual(session[3:], [[1, 0, 3], [1], [1, 2, 3]])

    def test_stars_that_rise_and_set(self):
        # first moment, least altitude, starts for vega, starts for sirius
        expected = [
            (849000000, 0, [1, 0, 230], [1, 0, 230]),
            (849000000, 36000000, [1, 0, 35], [1, 59, 230]),
            (849000000, 72000000, [0], [1, 182, 230]),
            (849000000, 144000000, [0], [0]),
            (848990000, 60000000, [1, 0, 138], [0]),
            (849010000, 60000000, [0], [1, 0, 193]),
            (849020000, 60000000, [1, 167, 230], [1, 0, 26]),
        ]
        for t, altitude, vega, sirius in expected:
            with self.subTest(t=t, altitude=altitude):
                tonight = night(t, 240, 48000000, 186000000, altitude)
                both = [load(SKY), tonight, observe(0, 10), observe(1, 10), starts(0), starts(1)]
                self.assertEqual(results(*both)[4:], [vega, sirius])

    def test_negative_moments_in_the_south(self):
        expected = [
            (-10000000000, [0], [1, 0, 230]),
            (-9999976000, [0], [1, 0, 31]),
            (-9999964000, [1, 171, 230], [0]),
            (-9999952000, [1, 0, 86], [0]),
            (-9999928000, [0], [1, 36, 230]),
        ]
        for t, vega, sirius in expected:
            with self.subTest(t=t):
                tonight = night(t, 240, 48000000, -120000000, 60000000)
                both = [load(SKY), tonight, observe(0, 10), observe(1, 10), starts(0), starts(1)]
                self.assertEqual(results(*both)[4:], [vega, sirius])

    def test_a_star_has_to_be_high_at_the_last_minute_too(self):
        # Vega is at the least altitude or above up to minute 148.
        for duration, last in ((1, 147), (10, 138), (60, 88)):
            tonight = night(848990000, 240, 48000000, 186000000, 60000000)
            self.assertEqual(last_result(load(SKY), tonight, observe(0, duration), starts(0)), [1, 0, last])

    def test_the_poles(self):
        # From a pole every star stands as high as its declination, all the night.
        for latitude, altitude, north in (
            (324000000, 324000000, [1, 0, 3]), (324000000, 320400000, [1, 0, 3]), (-324000000, -324000000, [1, 0, 3]),
            (-324000000, -323999990, [0]), (0, 0, [1, 0, 3]), (0, 60, [0]),
        ):
            with self.subTest(latitude=latitude, altitude=altitude):
                tonight = night(0, 4, 0, latitude, altitude)
                self.assertEqual(last_result(load(POLES), tonight, observe(0), starts(0)), north)


if __name__ == "__main__":
    unittest.main()
