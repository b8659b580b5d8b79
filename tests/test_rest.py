import unittest

from calls import BRIGHT, POLES, ROW, close, last_result, load, night, observe, plan, rest, results, slew, starts

# first moment, least altitude, the best plans for the rests of ASKED
NIGHTS = [
    (848980000, 108000000, [
        [120, 3, 4, 30, 5, 124, 0, 184], [10, 1, 3, 147], [30, 1, 0, 100], [0, 0], [0, 0],
    ]),
    (849020000, 72000000, [
        [50, 2, 1, 40, 0, 195], [10, 1, 3, 147], [30, 1, 0, 195], [30, 1, 0, 219], [0, 0],
    ]),
    (849040000, 36000000, [
        [120, 3, 4, 30, 5, 124, 0, 184], [10, 1, 3, 147], [70, 2, 0, 100, 4, 189], [30, 1, 0, 219], [0, 0],
    ]),
    (-3000000000, 36000000, [
        [120, 3, 5, 30, 0, 90, 4, 179], [10, 1, 3, 147], [70, 2, 0, 100, 4, 189], [30, 1, 0, 219], [0, 0],
    ]),
]
ASKED = [rest(30, 0, 2), rest(60, 3, 0, 2), rest(100, 6, 1, 5), rest(150, 5, 4), rest(0, 6, 0, 1, 2, 3, 4, 5)]
# The slew is a minute from star 0 to star 1, and three minutes from star 0 to star 3.
BEGUN = [load(ROW), night(minutes=20), observe(0, 2, 3), observe(1, 3, 4, 2, 12), observe(3, 1, 10)]


def rested(minute, at, *done):
    return last_result(*BEGUN, rest(minute, at, *done))


class Rest(unittest.TestCase):
    def test_errors(self):
        self.assertEqual(last_result(rest(0, 0)), [-5])
        self.assertEqual(last_result(load(POLES), rest(0, 9, 9)), [-5])
        self.assertEqual(last_result(*BEGUN, load(POLES), rest(0, 0)), [-5])
        self.assertEqual(rested(0, 4), [-3])
        self.assertEqual(rested(0, 10 ** 11), [-3])
        self.assertEqual(rested(0, 0, 3), [-3])
        self.assertEqual(rested(0, 0, 0, 1, 2, 300), [-3])
        self.assertEqual(rested(0, 0, 3, 0, 1), [-3])
        self.assertEqual(rested(0, 4, 3), [-3])
        self.assertEqual(rested(10 ** 11, 4), [-3])
        self.assertEqual(rested(10 ** 11, 0, 3), [-3])

    def test_no_observation_at_all(self):
        self.assertEqual(last_result(night(), rest(0, 0)), [0, 0])
        self.assertEqual(last_result(night(), rest(10 ** 11, 0)), [0, 0])
        self.assertEqual(last_result(night(), rest(0, 1)), [-3])
        self.assertEqual(last_result(night(), rest(0, 0, 0)), [-3])

    def test_from_the_beginning_without_a_star(self):
        self.assertEqual(rested(0, 0), last_result(*BEGUN, plan()))
        self.assertEqual(rested(0, 0), [17, 3, 2, 0, 1, 3, 0, 7])

    def test_at_a_star(self):
        self.assertEqual(rested(0, 1), [17, 3, 0, 0, 1, 3, 2, 8])
        self.assertEqual(rested(0, 2), [17, 3, 0, 1, 1, 4, 2, 9])
        self.assertEqual(rested(0, 3), [17, 3, 2, 0, 1, 3, 0, 7])
        self.assertEqual(rested(3, 0, 1), [13, 2, 2, 3, 0, 7])
        self.assertEqual(rested(3, 1, 1), [13, 2, 0, 3, 2, 8])
        self.assertEqual(rested(3, 2, 1), [13, 2, 0, 4, 2, 9])
        self.assertEqual(rested(3, 3, 1), [13, 2, 2, 3, 0, 7])

    def test_ready_at_the_very_minute(self):
        # From star 3 to star 0 it takes three minutes.
        self.assertEqual(rested(15, 3, 2, 1), [3, 1, 0, 18])
        self.assertEqual(rested(16, 3, 2, 1), [0, 0])
        self.assertEqual(rested(18, 0, 2, 1), [3, 1, 0, 18])
        self.assertEqual(rested(19, 0, 2, 1), [0, 0])
        self.assertEqual(rested(18, 1, 2, 1), [3, 1, 0, 18])

    def test_a_minute_behind_the_end(self):
        for minute in (20, 21, 240, 241, 10 ** 11):
            for at in range(4):
                self.assertEqual(rested(minute, at), [0, 0])

    def test_done(self):
        self.assertEqual(rested(0, 0, 0), [14, 2, 2, 0, 1, 3])
        self.assertEqual(rested(0, 0, 1), [13, 2, 2, 0, 0, 4])
        self.assertEqual(rested(0, 0, 2), [7, 2, 0, 0, 1, 3])
        self.assertEqual(rested(0, 0, 2, 0), [4, 1, 1, 2])
        self.assertEqual(rested(0, 0, 0, 1, 2), [0, 0])
        self.assertEqual(rested(0, 0, 1, 1, 1), [13, 2, 2, 0, 0, 4])

    def test_a_long_list_of_done_ones(self):
        self.assertEqual(rested(0, 0, *[1] * 6100), [13, 2, 2, 0, 0, 4])
        self.assertEqual(rested(0, 0, *[1] * 6099, 3), [-3])
        self.assertEqual(rested(0, 0, *[2, 1] * 3050), [3, 1, 0, 0])

    def test_the_star_may_be_of_one_that_is_left(self):
        self.assertEqual(rested(0, 3, 0, 1), [10, 1, 2, 0])
        self.assertEqual(rested(0, 1, 0, 1), [10, 1, 2, 3])

    def test_a_slew_longer_than_the_night(self):
        slow = [load(ROW), night(minutes=240, speed=1), observe(0, 2, 3), observe(1, 3, 4), observe(0, 1, 1)]
        self.assertEqual(last_result(*slow, rest(0, 2)), [4, 1, 1, 0])
        self.assertEqual(last_result(*slow, rest(0, 1)), [4, 2, 2, 0, 0, 1])
        self.assertEqual(last_result(*slow, rest(0, 2, 1)), [0, 0])
        self.assertEqual(last_result(*slow, rest(0, 0)), [4, 1, 1, 0])

    def test_ties(self):
        three = [load(ROW), night(minutes=10), *[observe(0, 2)] * 3]
        self.assertEqual(last_result(*three, rest(1, 0)), [3, 3, 2, 1, 1, 3, 0, 5])
        self.assertEqual(last_result(*three, rest(5, 0)), [2, 2, 1, 5, 0, 7])
        self.assertEqual(last_result(*three, rest(5, 0, 0)), [2, 2, 2, 5, 1, 7])
        self.assertEqual(last_result(*three, rest(7, 0, 0)), [1, 1, 1, 7])
        ends = [load(ROW), night(minutes=10), observe(0, 3, 5), observe(2, 2, 5)]
        self.assertEqual(last_result(*ends, rest(6, 0)), [5, 1, 1, 6])
        self.assertEqual(last_result(*ends, rest(6, 1)), [5, 1, 0, 6])
        self.assertEqual(last_result(*ends, rest(7, 0)), [5, 1, 1, 7])

    def test_closed_times(self):
        self.assertEqual(last_result(*BEGUN, close(4, 8), rest(3, 0, 1)), [13, 2, 2, 3, 0, 8])
        self.assertEqual(last_result(*BEGUN, close(4, 20), rest(3, 0, 1)), [10, 1, 2, 3])

    def test_stars_that_rise_and_set(self):
        observed = [observe(0, 20, 30), observe(2, 15, 20), observe(3, 60, 90), observe(5, 30, 10), observe(7, 25, 40),
                    observe(0, 60, 50)]
        for t, altitude, answers in NIGHTS:
            with self.subTest(t=t, altitude=altitude):
                tonight = night(t, 240, 48000000, 186000000, altitude, 30000)
                self.assertEqual(results(load(BRIGHT), tonight, *observed, *ASKED)[8:], answers)

    def test_changes_nothing(self):
        asked = [plan(), starts(1), slew(0, 2)]
        before = results(*BEGUN, *asked)[len(BEGUN):]
        session = results(*BEGUN, rest(9, 3, 1), rest(0, 4), rest(0, 0, 7), *asked)
        self.assertEqual(session[len(BEGUN):], [[13, 2, 2, 9, 0, 13], [-3], [-3], *before])


if __name__ == "__main__":
    unittest.main()
