import unittest

from calls import POLES, close, last_result, load, night, observe, results, starts


class Night(unittest.TestCase):
    def test_without_a_catalogue(self):
        self.assertEqual(results(night()), [[0]])
        self.assertEqual(last_result(night(), observe(0)), [-3])

    def test_ends_of_the_ranges(self):
        ranges = {
            "t": (-10000000000, 10000000000),
            "minutes": (1, 240),
            "longitude": (-648000000, 648000000),
            "latitude": (-324000000, 324000000),
            "altitude": (-324000000, 324000000),
            "speed": (1, 100000000),
        }
        for name, (low, high) in ranges.items():
            for number, answer in (
                (low, 0), (low + 1, 0), (high - 1, 0), (high, 0), (low - 1, -2), (high + 1, -2), (10 ** 11, -2),
            ):
                with self.subTest(name=name, number=number):
                    self.assertEqual(last_result(night(**{name: number})), [answer])
            if low < 0:
                self.assertEqual(last_result(night(**{name: -10 ** 11})), [-2])

    def test_drops_observations_and_closed_times(self):
        before = [load(POLES), night(minutes=4), observe(0), close(0, 4), night(minutes=4)]
        self.assertEqual(last_result(*before, starts(0)), [-3])
        self.assertEqual(results(*before, observe(1), starts(0), close(1, 2))[5:], [[0], [1, 0, 3], [1]])

    def test_keeps_the_catalogue(self):
        self.assertEqual(last_result(load(POLES), night(), night(), observe(1)), [0])

    def test_an_error_changes_nothing(self):
        bad = [night(t=10000000001), night(minutes=0), night(longitude=648000001), night(latitude=-324000001),
               night(altitude=324000001), night(speed=0)]
        for call in bad:
            with self.subTest(call=call):
                session = results(load(POLES), night(minutes=4), observe(0), close(3, 4), call, starts(0), close(0, 1))
                self.assertEqual(session[4:], [[-2], [1, 0, 2], [2]])
                self.assertEqual(last_result(load(POLES), call, observe(0)), [-5])

    def test_sets_each_number_anew(self):
        first = [load(POLES), night(minutes=4, altitude=324000000)]
        self.assertEqual(last_result(*first, observe(1), starts(0)), [0])
        self.assertEqual(last_result(*first, night(minutes=9), observe(1), starts(0)), [1, 0, 8])


if __name__ == "__main__":
    unittest.main()
