import unittest

from calls import POLES, QUARTER, ROW, check, close, last_result, load, night, observe, plan, results, starts

# The slew between stars 0 and 1 is one minute, between 0 and 3 three minutes.
BEGUN = [load(ROW), night(minutes=20), observe(0, 2, 3), observe(1, 3, 4, 2, 12), observe(3, 1, 10), observe(0, 4, 7)]


def checked(*entries):
    return last_result(*BEGUN, check(*entries))


class Check(unittest.TestCase):
    def test_values(self):
        self.assertEqual(checked(0, 0), [3])
        self.assertEqual(checked(0, 18), [3])
        self.assertEqual(checked(0, 0, 1, 3), [7])
        self.assertEqual(checked(1, 2, 0, 6), [7])
        self.assertEqual(checked(0, 0, 3, 2), [10])
        self.assertEqual(checked(3, 0, 1, 5, 2, 10, 0, 14), [24])
        self.assertEqual(checked(3, 0, 2, 8, 0, 17), [20])

    def test_no_entries(self):
        self.assertEqual(checked(), [0])
        self.assertEqual(last_result(night(), check()), [0])

    def test_no_such_observation(self):
        self.assertEqual(checked(4, 0), [-7, 0, 1])
        self.assertEqual(checked(300, 300), [-7, 0, 1])
        self.assertEqual(checked(0, 0, 4, 2), [-7, 1, 1])
        self.assertEqual(checked(0, 0, 4, 2, 4, 2), [-7, 1, 1])
        self.assertEqual(last_result(night(), check(0, 0)), [-7, 0, 1])

    def test_occurs_before(self):
        self.assertEqual(checked(0, 0, 0, 2), [-7, 1, 2])
        self.assertEqual(checked(0, 0, 3, 2, 0, 6), [-7, 2, 2])
        self.assertEqual(checked(3, 0, 0, 4, 2, 9, 0, 15), [-7, 3, 2])

    def test_cannot_begin_then(self):
        self.assertEqual(checked(0, 19), [-7, 0, 3])
        self.assertEqual(checked(0, 300), [-7, 0, 3])
        self.assertEqual(checked(1, 1), [-7, 0, 3])
        self.assertEqual(checked(1, 10), [-7, 0, 3])
        self.assertEqual(checked(1, 9), [4])
        self.assertEqual(checked(0, 0, 3, 2, 1, 10), [-7, 2, 3])
        self.assertEqual(last_result(load(ROW), night(altitude=QUARTER), observe(1), check(0, 0)), [-7, 0, 3])

    def test_cannot_begin_in_a_closed_time(self):
        shut = [*BEGUN, close(4, 6)]
        for minute, answer in ((0, [3]), (2, [3]), (3, [-7, 0, 3]), (4, [-7, 0, 3]), (5, [-7, 0, 3]), (6, [3])):
            with self.subTest(minute=minute):
                self.assertEqual(last_result(*shut, check(0, minute)), answer)
        self.assertEqual(last_result(*shut, check(0, 2, 3, 4)), [-7, 1, 3])
        self.assertEqual(last_result(*shut, check(0, 2, 3, 6)), [10])

    def test_is_not_ready_then(self):
        self.assertEqual(checked(0, 0, 1, 2), [-7, 1, 4])
        self.assertEqual(checked(0, 0, 1, 3), [7])
        self.assertEqual(checked(0, 5, 1, 3), [-7, 1, 4])
        self.assertEqual(checked(0, 0, 3, 1), [-7, 1, 4])
        self.assertEqual(checked(0, 0, 2, 4), [-7, 1, 4])
        self.assertEqual(checked(0, 0, 2, 5), [13])
        self.assertEqual(checked(2, 0, 0, 3), [-7, 1, 4])
        self.assertEqual(checked(2, 0, 0, 4), [13])
        self.assertEqual(checked(0, 0, 1, 3, 3, 6), [-7, 2, 4])
        self.assertEqual(checked(0, 0, 1, 3, 3, 7), [14])

    def test_only_the_entry_before_counts(self):
        # From star 0 to star 3 by way of star 1, the telescope has time enough.
        self.assertEqual(checked(0, 0, 1, 3, 2, 8), [17])
        self.assertEqual(checked(0, 0, 1, 3, 2, 7), [-7, 2, 4])

    def test_the_first_mistake_of_an_entry(self):
        # No such observation, though it would occur before and begin too late and too early.
        self.assertEqual(checked(0, 5, 9, 300), [-7, 1, 1])
        # Occurs before, though it can't begin then and the telescope isn't ready then.
        self.assertEqual(checked(0, 5, 0, 300), [-7, 1, 2])
        self.assertEqual(checked(0, 5, 0, 5), [-7, 1, 2])
        self.assertEqual(checked(1, 5, 1, 1), [-7, 1, 2])
        # Can't begin then, though the telescope isn't ready then.
        self.assertEqual(checked(0, 5, 1, 1), [-7, 1, 3])
        self.assertEqual(checked(0, 8, 1, 10), [-7, 1, 3])

    def test_the_first_entry_with_a_mistake(self):
        self.assertEqual(checked(0, 0, 1, 2, 9, 0), [-7, 1, 4])
        self.assertEqual(checked(0, 19, 0, 0), [-7, 0, 3])
        self.assertEqual(checked(0, 0, 0, 2, 4, 0), [-7, 1, 2])
        self.assertEqual(checked(0, 0, 3, 2, 1, 6, 4, 4), [-7, 2, 4])

    def test_an_odd_number_of_elements(self):
        self.assertEqual(checked(0), [-2])
        self.assertEqual(checked(9), [-2])
        self.assertEqual(checked(0, 0, 1), [-2])
        self.assertEqual(checked(9, 0, 1), [-2])
        self.assertEqual(checked(*[0] * 6099), [-2])

    def test_a_long_list(self):
        self.assertEqual(checked(*[0] * 6100), [-7, 1, 2])
        self.assertEqual(checked(3, 0, 1, 5, 2, 10, 0, 14, *[300] * 6092), [-7, 4, 1])

    def test_no_night(self):
        self.assertEqual(last_result(check()), [-5])
        self.assertEqual(last_result(load(POLES), check(0)), [-5])
        self.assertEqual(last_result(load(POLES), check(0, 0)), [-5])
        self.assertEqual(last_result(*BEGUN, load(POLES), check(0)), [-5])

    def test_six_observations(self):
        six = [load(ROW), night(), *[observe(star, 2, 10 + star) for star in range(6)]]
        self.assertEqual(last_result(*six, check(0, 0, 1, 3, 2, 6, 3, 9, 4, 12, 5, 15)), [75])
        self.assertEqual(last_result(*six, check(5, 0, 4, 3, 3, 6, 2, 9, 1, 12, 0, 14)), [-7, 5, 4])
        self.assertEqual(last_result(*six, check(5, 0, 4, 3, 3, 6, 2, 9, 1, 12, 0, 15, 6, 20)), [-7, 6, 1])

    def test_slews_of_several_telescopes(self):
        for speed, least in ((1, 180002), (59999, 6), (60000, 5), (180000, 3), (179999, 4), (100000000, 3)):
            for minute in range(2, 9):
                with self.subTest(speed=speed, minute=minute):
                    tonight = [load(ROW), night(speed=speed), observe(0, 2, 3), observe(3, 1, 10)]
                    answer = [13] if minute >= least else [-7, 1, 4]
                    self.assertEqual(last_result(*tonight, check(0, 0, 1, minute)), answer)

    def test_an_error_changes_nothing(self):
        asked = [plan(), starts(1)]
        before = results(*BEGUN, *asked)[len(BEGUN):]
        session = results(*BEGUN, check(0), check(0, 0, 1, 2), check(9, 9), check(0, 0), *asked)
        self.assertEqual(session[len(BEGUN):], [[-2], [-7, 1, 4], [-7, 0, 1], [3], *before])


if __name__ == "__main__":
    unittest.main()
