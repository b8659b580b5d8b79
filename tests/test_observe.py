import unittest

from calls import POLES, last_result, load, night, observe, results, starts

BEGUN = [load(POLES), night(minutes=4)]


class Observe(unittest.TestCase):
    def test_numbers(self):
        session = results(*BEGUN, *[observe(number % 2) for number in range(7)])
        self.assertEqual(session[2:], [[0], [1], [2], [3], [4], [5], [-6]])

    def test_ends_of_the_ranges(self):
        for name, good, bad in (
            ("duration", (1, 2, 59, 60), (0, 61, 10 ** 11)),
            ("value", (1, 2, 999, 1000), (0, 1001, 10 ** 11)),
            ("last", (0, 1, 239, 240), (241, 10 ** 11)),
            ("first", (0, 1, 240, 241, 10 ** 11), ()),
        ):
            for number in good:
                with self.subTest(name=name, good=number):
                    self.assertEqual(last_result(*BEGUN, observe(**{name: number})), [0])
            for number in bad:
                with self.subTest(name=name, bad=number):
                    self.assertEqual(last_result(*BEGUN, observe(**{name: number})), [-2])

    def test_stars(self):
        for star, answer in ((0, 0), (1, 0), (2, -3), (60, -3), (10 ** 11, -3)):
            self.assertEqual(last_result(*BEGUN, observe(star)), [answer])

    def test_an_observation_may_end_ahead_of_its_beginning(self):
        self.assertEqual(results(*BEGUN, observe(0, 1, 1, 3, 2), starts(0))[2:], [[0], [0]])

    def test_order_of_the_errors(self):
        full = BEGUN + 6 * [observe()]
        wrong = observe(2, 0, 0, 0, 241)
        self.assertEqual(last_result(wrong), [-5])
        self.assertEqual(last_result(load(POLES), wrong), [-5])
        self.assertEqual(last_result(*full, wrong), [-3])
        self.assertEqual(last_result(*full, observe(1, 0)), [-2])
        self.assertEqual(last_result(*full, observe(1)), [-6])

    def test_an_error_changes_nothing(self):
        session = results(*BEGUN, observe(2), observe(0, 0), observe(0, 1, 0), observe(0), observe(1, last=241), observe(1))
        self.assertEqual(session[2:], [[-3], [-2], [-2], [0], [-2], [1]])
        full = results(*BEGUN, *6 * [observe(0, 2)], observe(0, 1), starts(0), starts(5), starts(6))
        self.assertEqual(full[-4:], [[-6], [1, 0, 2], [1, 0, 2], [-3]])


if __name__ == "__main__":
    unittest.main()
