import unittest

from calls import BRIGHT, POLES, ROW, close, last_result, load, night, observe, plan, plan_with, results, starts

# first moment, least altitude, the best plan with each of the observations
NIGHTS = [
    (848980000, 144000000, [
        [90, 3, 5, 0, 0, 60, 3, 184],
        [-4],
        [100, 2, 3, 0, 2, 178],
        [100, 2, 3, 0, 2, 178],
        [70, 2, 4, 0, 0, 94],
        [90, 3, 5, 0, 0, 60, 3, 184],
    ]),
    (849020000, 72000000, [
        [50, 2, 1, 40, 0, 195],
        [50, 2, 1, 40, 0, 195],
        [100, 2, 3, 0, 2, 117],
        [100, 2, 3, 0, 2, 117],
        [-4],
        [-4],
    ]),
    (849040000, 144000000, [
        [100, 3, 1, 0, 5, 134, 0, 194],
        [100, 3, 1, 0, 5, 134, 0, 194],
        [-4],
        [90, 3, 3, 0, 5, 134, 0, 194],
        [-4],
        [100, 3, 1, 0, 5, 134, 0, 194],
    ]),
    (-3000000000, 36000000, [
        [120, 3, 5, 0, 0, 60, 4, 149],
        [100, 3, 1, 0, 5, 134, 0, 194],
        [100, 2, 2, 0, 3, 147],
        [100, 2, 2, 0, 3, 147],
        [120, 3, 5, 0, 0, 60, 4, 149],
        [120, 3, 5, 0, 0, 60, 4, 149],
    ]),
]


def plan_with_of(observation, *calls, minutes=240, speed=60000, sky=ROW):
    return last_result(load(sky), night(minutes=minutes, speed=speed), *calls, plan_with(observation))


class With(unittest.TestCase):
    def test_errors(self):
        self.assertEqual(last_result(plan_with(0)), [-5])
        self.assertEqual(last_result(load(POLES), plan_with(9)), [-5])
        self.assertEqual(last_result(load(POLES), night(), plan_with(0)), [-3])
        begun = [load(POLES), night(), observe(0), observe(1), load(POLES)]
        self.assertEqual(last_result(*begun, plan_with(0)), [-5])
        self.assertEqual(last_result(*begun[:4], plan_with(1)), [2, 2, 1, 0, 0, 2])
        self.assertEqual(last_result(*begun[:4], plan_with(2)), [-3])
        self.assertEqual(last_result(*begun[:4], plan_with(10 ** 11)), [-3])

    def test_no_such_plan(self):
        two = [observe(0, 3, 5), observe(1, 3, 7, 0, 2)]
        self.assertEqual(plan_with_of(0, *two), [5, 1, 0, 0])
        self.assertEqual(plan_with_of(1, *two), [-4])
        # That there is no observation comes ahead of that there is no plan.
        self.assertEqual(plan_with_of(2, *two), [-3])
        self.assertEqual(plan_with_of(0, *two, close(0, 240)), [-4])
        self.assertEqual(plan_with_of(0, *two, minutes=2), [-4])
        self.assertEqual(plan_with_of(0, *two, minutes=3), [5, 1, 0, 0])

    def test_one_that_the_best_plan_has(self):
        two = [observe(0, 2, 3), observe(3, 2, 4, 2)]
        for observation in (0, 1):
            self.assertEqual(plan_with_of(observation, *two), [7, 2, 0, 0, 1, 5])

    def test_one_that_the_best_plan_leaves_out(self):
        three = [observe(0, 2, 3), observe(0, 3, 4), observe(0, 5, 9)]
        self.assertEqual(last_result(load(ROW), night(minutes=6), *three, plan()), [9, 1, 2, 0])
        self.assertEqual(plan_with_of(0, *three, minutes=6), [7, 2, 1, 0, 0, 3])
        self.assertEqual(plan_with_of(1, *three, minutes=6), [7, 2, 1, 0, 0, 3])
        self.assertEqual(plan_with_of(2, *three, minutes=6), [9, 1, 2, 0])
        self.assertEqual(plan_with_of(0, *three, minutes=4), [3, 1, 0, 0])

    def test_of_one_value_the_smallest_earliest_end(self):
        three = [observe(0, 2, 3), observe(0, 3, 4), observe(0, 2, 4)]
        self.assertEqual(plan_with_of(0, *three, minutes=5), [7, 2, 2, 0, 0, 2])
        self.assertEqual(plan_with_of(1, *three, minutes=5), [8, 2, 2, 0, 1, 2])

    def test_of_one_value_and_end_the_smallest_sum(self):
        # With observation 3: with 2 as well (12), or with 0 and 1 as well (11).
        four = [observe(0, 1, 2), observe(0, 1, 2), observe(0, 2, 4), observe(0, 2, 1)]
        self.assertEqual(plan_with_of(3, *four, minutes=4), [5, 3, 3, 0, 1, 2, 0, 3])
        # With observation 3: with 1 and 2 (14), or with 0 (9).
        four = [observe(0, 2, 4), observe(0, 1, 2), observe(0, 1, 2), observe(0, 2, 1)]
        self.assertEqual(plan_with_of(3, *four, minutes=4), [5, 2, 3, 0, 0, 2])

    def test_the_lowest_last_observation_and_the_lowest_before_it(self):
        late = observe(0, 1, 1, 20, 21)
        for observation in (0, 1, 2):
            asked = [observe(0, 1), observe(0, 1, 1, 5), late]
            self.assertEqual(plan_with_of(observation, *asked), [3, 3, 1, 5, 0, 6, 2, 20])
            self.assertEqual(plan_with_of(observation, *[observe(0, 1)] * 3), [3, 3, 2, 0, 1, 1, 0, 2])

    def test_six_observations(self):
        six = [observe(star, 2) for star in range(6)]
        tonight = [load(ROW), night(minutes=16), *six]
        expected = [
            [5, 5, 4, 0, 3, 3, 2, 6, 1, 9, 0, 12],
            [5, 5, 4, 0, 3, 3, 2, 6, 1, 9, 0, 12],
            [5, 5, 4, 0, 3, 3, 2, 6, 1, 9, 0, 12],
            [5, 5, 4, 0, 3, 3, 2, 6, 1, 9, 0, 12],
            [5, 5, 4, 0, 3, 3, 2, 6, 1, 9, 0, 12],
            [5, 5, 5, 0, 4, 3, 3, 6, 2, 9, 1, 12],
        ]
        self.assertEqual(results(*tonight, *[plan_with(number) for number in range(6)])[8:], expected)

    def test_stars_that_rise_and_set(self):
        observed = [observe(0, 20, 30), observe(2, 15, 20), observe(3, 60, 90), observe(5, 30, 10), observe(7, 25, 40),
                    observe(0, 60, 50)]
        asked = [plan_with(number) for number in range(6)]
        for t, altitude, answers in NIGHTS:
            with self.subTest(t=t, altitude=altitude):
                tonight = night(t, 240, 48000000, 186000000, altitude, 30000)
                self.assertEqual(results(load(BRIGHT), tonight, *observed, *asked)[8:], answers)

    def test_changes_nothing(self):
        begun = [load(ROW), night(minutes=9), observe(0, 2), observe(1, 2), observe(0, 10)]
        both = [2, 2, 1, 0, 0, 3]
        session = results(*begun, plan_with(2), plan_with(3), plan_with(0), plan(), starts(0), plan_with(1))
        self.assertEqual(session[5:], [[-4], [-3], both, both, [1, 0, 7], both])


if __name__ == "__main__":
    unittest.main()
