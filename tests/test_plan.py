import unittest

from calls import BRIGHT, POLES, QUARTER, ROW, close, last_result, load, night, observe, plan, results, slew, starts

# first moment, least altitude, the best plan
NIGHTS = [
    (848980000, 144000000, [100, 2, 3, 0, 2, 178]),
    (848980000, 200000000, [30, 1, 0, 0]),
    (848990000, 200000000, [90, 1, 2, 118]),
    (849000000, -324000000, [120, 3, 4, 0, 5, 94, 0, 154]),
    (849020000, 144000000, [100, 2, 2, 0, 3, 147]),
    (849020000, 200000000, [0, 0]),
    (849040000, 108000000, [120, 3, 5, 0, 0, 60, 4, 159]),
    (849040000, 144000000, [100, 3, 1, 0, 5, 134, 0, 194]),
    (-10000000000, 200000000, [90, 1, 2, 0]),
    (-3000000000, 72000000, [120, 3, 5, 0, 0, 60, 4, 152]),
    (-3000000000, 200000000, [70, 2, 1, 27, 5, 169]),
    (9999990000, 144000000, [100, 2, 3, 0, 2, 117]),
]


def plan_of(*calls, minutes=240, speed=60000, sky=ROW):
    return last_result(load(sky), night(minutes=minutes, speed=speed), *calls, plan())


class Plan(unittest.TestCase):
    def test_errors(self):
        self.assertEqual(last_result(plan()), [-5])
        self.assertEqual(last_result(load(POLES), plan()), [-5])
        self.assertEqual(last_result(load(POLES), night(minutes=0), plan()), [-5])
        self.assertEqual(last_result(load(POLES), night(), observe(0), load(POLES), plan()), [-5])

    def test_no_observation_at_all(self):
        self.assertEqual(last_result(night(), plan()), [0, 0])
        self.assertEqual(plan_of(), [0, 0])
        self.assertEqual(plan_of(close(0, 3)), [0, 0])
        self.assertEqual(plan_of(observe(0), night(), close(0, 3)), [0, 0])

    def test_no_observation_that_can_begin(self):
        self.assertEqual(plan_of(observe(0, 3), observe(1, 4), minutes=2), [0, 0])
        self.assertEqual(plan_of(observe(0), observe(1), close(0, 240)), [0, 0])
        self.assertEqual(plan_of(observe(0, 1, 9, 240), observe(1, 1, 9, 0, 0)), [0, 0])
        self.assertEqual(last_result(load(ROW), night(altitude=QUARTER), observe(2), plan()), [0, 0])

    def test_one_observation(self):
        self.assertEqual(plan_of(observe(3, 5, 7)), [7, 1, 0, 0])
        self.assertEqual(plan_of(observe(3, 5, 7, 4)), [7, 1, 0, 4])
        self.assertEqual(plan_of(observe(3, 5, 7, 4, 9)), [7, 1, 0, 4])
        self.assertEqual(plan_of(observe(3, 5, 7, 4, 8)), [0, 0])
        self.assertEqual(plan_of(observe(3, 5, 7, 4), close(8, 11)), [7, 1, 0, 11])
        self.assertEqual(plan_of(observe(3, 5, 7), minutes=5), [7, 1, 0, 0])
        self.assertEqual(plan_of(observe(3, 60, 1000)), [1000, 1, 0, 0])

    def test_the_telescope_is_ready_after_end_and_slew(self):
        two = [observe(0, 2, 3), observe(3, 2, 4, 2)]
        self.assertEqual(plan_of(*two), [7, 2, 0, 0, 1, 5])
        self.assertEqual(plan_of(*two, minutes=7), [7, 2, 0, 0, 1, 5])
        self.assertEqual(plan_of(*two, minutes=6), [4, 1, 1, 2])
        self.assertEqual(plan_of(*two, minutes=7, speed=59999), [4, 1, 1, 2])
        self.assertEqual(plan_of(*two, minutes=8, speed=59999), [7, 2, 0, 0, 1, 6])

    def test_the_slowest_and_the_fastest_telescope(self):
        two = [observe(0, 2, 3), observe(5, 2, 4), observe(0, 2, 2)]
        self.assertEqual(plan_of(*two, speed=1), [5, 2, 2, 0, 0, 2])
        self.assertEqual(plan_of(*two, speed=100000000), [9, 3, 1, 0, 2, 3, 0, 5])

    def test_a_star_observed_twice(self):
        self.assertEqual(plan_of(observe(4, 2, 3), observe(4, 3, 5, 1), minutes=5), [8, 2, 0, 0, 1, 2])
        self.assertEqual(plan_of(observe(4, 2, 3), observe(4, 3, 5, 1), minutes=4), [5, 1, 1, 1])
        self.assertEqual(plan_of(*[observe(4, 40)] * 6), [6, 6, 5, 0, 4, 40, 3, 80, 2, 120, 1, 160, 0, 200])

    def test_waits_for_a_better_observation(self):
        late = [observe(0, 3, 5), observe(0, 3, 9, 1, 4)]
        self.assertEqual(plan_of(*late), [14, 2, 1, 1, 0, 4])
        self.assertEqual(plan_of(*late, minutes=6), [9, 1, 1, 1])

    def test_the_value_counts_not_how_many(self):
        long = observe(0, 10, 5)
        self.assertEqual(plan_of(long, observe(0, 5, 2), observe(0, 5, 2), minutes=10), [5, 1, 0, 0])
        self.assertEqual(plan_of(long, observe(0, 5, 3), observe(0, 5, 3), minutes=10), [6, 2, 2, 0, 1, 5])
        self.assertEqual(plan_of(long, observe(1, 5, 3), observe(0, 5, 3), minutes=10), [5, 1, 0, 0])

    def test_six_observations(self):
        six = [observe(star, 2) for star in (0, 1, 2, 3, 4, 5)]
        self.assertEqual(plan_of(*six), [6, 6, 5, 0, 4, 3, 3, 6, 2, 9, 1, 12, 0, 15])
        self.assertEqual(plan_of(*six, minutes=17), [6, 6, 5, 0, 4, 3, 3, 6, 2, 9, 1, 12, 0, 15])
        self.assertEqual(plan_of(*six, minutes=16), [5, 5, 4, 0, 3, 3, 2, 6, 1, 9, 0, 12])
        mixed = [observe(star, 1 + star) for star in (3, 0, 5, 1, 4, 2)]
        self.assertEqual(plan_of(*mixed), [6, 6, 2, 0, 4, 7, 0, 13, 5, 18, 3, 22, 1, 25])

    def test_closed_times(self):
        two = [observe(0, 2, 3), observe(1, 2, 4)]
        self.assertEqual(plan_of(*two, close(2, 4)), [7, 2, 1, 0, 0, 4])
        self.assertEqual(plan_of(*two, close(1, 3)), [7, 2, 1, 3, 0, 6])
        self.assertEqual(plan_of(*two, close(3, 5), minutes=6), [4, 1, 1, 0])
        # A telescope may be turned in a closed time.
        self.assertEqual(plan_of(*two, close(2, 3), minutes=5), [7, 2, 1, 0, 0, 3])

    def test_of_one_value_the_smallest_earliest_end(self):
        self.assertEqual(plan_of(observe(0, 3, 5), observe(0, 2, 5), minutes=4), [5, 1, 1, 0])
        self.assertEqual(plan_of(observe(0, 2, 5), observe(0, 3, 5), minutes=4), [5, 1, 0, 0])
        self.assertEqual(plan_of(observe(0, 2, 5, 2), observe(0, 3, 5), minutes=4), [5, 1, 1, 0])
        # Two of value 4 end at minute 4, the one of value 8 at minute 5, and they don't go together.
        three = [observe(0, 5, 8), observe(0, 2, 4), observe(0, 2, 4)]
        self.assertEqual(plan_of(*three, minutes=6), [8, 2, 2, 0, 1, 2])
        self.assertEqual(plan_of(observe(0, 3, 8), *three[1:], minutes=4), [8, 1, 0, 0])

    def test_of_one_value_and_end_the_smallest_sum(self):
        self.assertEqual(plan_of(*[observe(0, 2, 5)] * 3, minutes=3), [5, 1, 0, 0])
        # Observations 0 and 1 have the sum 3, observation 2 has 4.
        self.assertEqual(plan_of(observe(0, 2, 4), observe(0, 2, 4), observe(0, 4, 8), minutes=4), [8, 2, 1, 0, 0, 2])
        self.assertEqual(plan_of(observe(0, 4, 8), observe(0, 2, 4), observe(0, 2, 4), minutes=4), [8, 1, 0, 0])
        # Observations 1 and 2 have the sum 6, 0 and 3 have 9, though 0 is lower.
        four = [observe(0, 1, 1), observe(0, 2, 2), observe(0, 2, 2), observe(0, 3, 3)]
        self.assertEqual(plan_of(*four, minutes=4), [4, 2, 2, 0, 1, 2])

    def test_the_lowest_last_observation_with_the_earliest_end(self):
        self.assertEqual(plan_of(observe(0, 3), observe(0, 1)), [2, 2, 1, 0, 0, 1])
        self.assertEqual(plan_of(observe(0, 1), observe(0, 3)), [2, 2, 1, 0, 0, 3])
        # With 1 as the last one the end is 5, with 0 it is 6.
        self.assertEqual(plan_of(observe(0, 1), observe(0, 2, 1, 3)), [2, 2, 0, 0, 1, 3])
        # Each of the three may be the last one at minute 5; then 0 has to be the first one.
        self.assertEqual(plan_of(observe(2, 2), observe(1, 1), observe(1, 1)), [3, 3, 2, 0, 1, 1, 0, 3])
        self.assertEqual(plan_of(observe(2, 2, 1, 0, 2), observe(1, 1), observe(1, 1)), [3, 3, 0, 0, 2, 3, 1, 4])

    def test_the_lowest_observation_before_it(self):
        self.assertEqual(plan_of(*[observe(0, 1)] * 3), [3, 3, 2, 0, 1, 1, 0, 2])
        late = observe(0, 1, 1, 20, 21)
        # Observations 0 and 1 end earlier with 0 before 1, yet 0 may come between 1 and 2 as well.
        self.assertEqual(plan_of(observe(0, 1), observe(0, 1, 1, 5), late), [3, 3, 1, 5, 0, 6, 2, 20])
        self.assertEqual(plan_of(observe(0, 1, 1, 5), observe(0, 1), late), [3, 3, 1, 0, 0, 5, 2, 20])
        # Behind 1 and 0 and a slew of five minutes, the telescope is ready at minute 17.
        far = [observe(5, 1), observe(0, 1, 1, 5)]
        self.assertEqual(plan_of(*far, observe(0, 1, 1, 16, 17)), [3, 3, 0, 0, 1, 6, 2, 16])
        self.assertEqual(plan_of(*far, observe(0, 1, 1, 17, 18)), [3, 3, 1, 5, 0, 11, 2, 17])

    def test_each_one_begins_at_its_earliest_end(self):
        # Observation 1 might end as late as minute 19, and is taken as early as it can be.
        self.assertEqual(plan_of(observe(0, 1, 1, 20, 21), observe(0, 1), observe(0, 1)), [3, 3, 2, 0, 1, 1, 0, 20])

    def test_stars_that_rise_and_set(self):
        observed = [observe(0, 20, 30), observe(2, 15, 20), observe(3, 60, 90), observe(5, 30, 10), observe(7, 25, 40),
                    observe(0, 60, 50)]
        for t, altitude, answer in NIGHTS:
            with self.subTest(t=t, altitude=altitude):
                tonight = night(t, 240, 48000000, 186000000, altitude, 30000)
                self.assertEqual(last_result(load(BRIGHT), tonight, *observed, plan()), answer)

    def test_changes_nothing(self):
        begun = [load(ROW), night(minutes=9), observe(0, 2), observe(1, 2)]
        session = results(*begun, plan(), plan(), starts(0), slew(0, 1), close(2, 3), plan())
        both = [2, 2, 1, 0, 0, 3]
        self.assertEqual(session[4:], [both, both, [1, 0, 7], [1], [1], both])


if __name__ == "__main__":
    unittest.main()
