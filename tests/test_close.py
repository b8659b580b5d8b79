import unittest

from calls import POLES, close, last_result, load, night, observe, results, starts

BEGUN = [load(POLES), night(minutes=10), observe(0, 2)]


class Close(unittest.TestCase):
    def test_counts(self):
        session = results(*BEGUN, *[close(number, number + 1) for number in range(6)])
        self.assertEqual(session[3:], [[1], [2], [3], [4], [5], [-6]])

    def test_ends_of_the_ranges(self):
        for a, b, answer in (
            (0, 1, 1), (0, 240, 1), (239, 240, 1), (0, 0, -2), (3, 3, -2), (4, 3, -2), (240, 240, -2), (240, 241, -2),
            (0, 241, -2), (241, 240, -2), (10 ** 11, 1, -2), (0, 10 ** 11, -2),
        ):
            with self.subTest(a=a, b=b):
                self.assertEqual(last_result(*BEGUN, close(a, b)), [answer])

    def test_may_go_beyond_the_night_and_over_another(self):
        self.assertEqual(results(*BEGUN, close(8, 100), close(8, 100), close(9, 11), starts(0))[3:],
                         [[1], [2], [3], [1, 0, 6]])

    def test_order_of_the_errors(self):
        full = BEGUN + 5 * [close(8, 9)]
        self.assertEqual(last_result(close(3, 3)), [-5])
        self.assertEqual(last_result(load(POLES), close(0, 241)), [-5])
        self.assertEqual(last_result(*full, close(3, 3)), [-2])
        self.assertEqual(last_result(*full, close(3, 241)), [-2])
        self.assertEqual(last_result(*full, close(3, 4)), [-6])

    def test_an_error_changes_nothing(self):
        session = results(*BEGUN, close(5, 5), close(6, 4), close(0, 241), starts(0), close(9, 10))
        self.assertEqual(session[3:], [[-2], [-2], [-2], [1, 0, 8], [1]])
        full = results(*BEGUN, *5 * [close(9, 10)], close(0, 9), starts(0))
        self.assertEqual(full[-2:], [[-6], [1, 0, 7]])


if __name__ == "__main__":
    unittest.main()
