import unittest

from calls import (
    POLES, check, close, last_result, load, night, observe, plan, plan_with, rest, results, slew, starts,
)
from nightplans.telescope import answers

# Each call of the document's examples, and its result.
EXAMPLES = [
    (load(POLES), [2]),
    (night(0, 4, 0, 324000000, 300000000, 60000), [0]),
    (observe(0, 1, 5, 0, 4), [0]),
    (observe(1, 1, 7, 0, 4), [1]),
    (observe(2, 1, 1, 0, 4), [-3]),
    (observe(0, 0, 1, 0, 4), [-2]),
    (close(3, 3), [-2]),
    (slew(0, 1), [1]),
    (slew(1, 1), [0]),
    (slew(0, 2), [-3]),
    (starts(0), [1, 0, 3]),
    (plan(), [12, 2, 1, 0, 0, 2]),
    (check(1, 0, 0, 1), [-7, 1, 4]),
    (check(0, 0, 1, 2), [12]),
    (check(0, 4), [-7, 0, 3]),
    (check(0, 0, 0), [-2]),
    (rest(2, 1), [7, 1, 1, 3]),
    (close(1, 4), [1]),
    (starts(1), [1, 0, 0]),
    (plan_with(0), [5, 1, 0, 0]),
]
EXAMPLE = [call for call, result in EXAMPLES]
ALL_OF_THEM = sum(EXAMPLE, [])


class Unchangeable(list):
    """A list that refuses to be changed, be it for a while."""

    def refuse(self, *what):
        raise AssertionError("what is handed in was changed")

    append = extend = insert = pop = remove = reverse = sort = clear = refuse
    __setitem__ = __delitem__ = __iadd__ = __imul__ = refuse


class Answers(unittest.TestCase):
    def test_examples(self):
        for (call, expected), answered in zip(EXAMPLES, results(*EXAMPLE)):
            with self.subTest(call=call):
                self.assertEqual(answered, expected)

    def test_examples_in_one_list(self):
        self.assertEqual(answers(ALL_OF_THEM), [
            1, 2, 1, 0, 1, 0, 1, 1, 1, -3, 1, -2, 1, -2, 1, 1, 1, 0, 1, -3, 3, 1, 0, 3, 6, 12, 2, 1, 0, 0, 2,
            3, -7, 1, 4, 1, 12, 3, -7, 0, 3, 1, -2, 4, 7, 1, 1, 3, 1, 1, 3, 1, 0, 0, 4, 5, 1, 0, 0,
        ])

    def test_the_numbers_of_each_call(self):
        self.assertEqual(answers([5, 0, 1, 6, 7, 2, 0, 1, 8, 3, 9, 4, 1, 3, 1, 2, 3, 4, 5]), 6 * [1, -5])
        self.assertEqual(answers([*night(), 7, 0, 9, 7, 0, 0, 9, 7, 0, 1, 5, 7, 2, 8, 6, 6]),
                         [1, 0, 1, 0, 2, 0, 0, 1, -3, 3, -7, 0, 1, 2, 0, 0])

    def test_an_error_of_a_text_has_two_numbers(self):
        self.assertEqual(answers(load("x") + load_of_a_tab()), [2, -11, 1, 1, -1])

    def test_no_range_is_one_number(self):
        self.assertEqual(last_result(load(POLES), night(minutes=1), observe(0, 2), starts(0)), [0])

    def test_thirty_calls(self):
        calls = [load(POLES), night(minutes=4)] + 28 * [observe(5)]
        self.assertEqual(results(*calls), [[2], [0]] + 28 * [[-3]])

    def test_four_full_texts(self):
        text = "#" + 5999 * "x"
        self.assertEqual(results(*4 * [load(text)]), 4 * [[0]])

    def test_all_errors_in_one_session(self):
        asked = [plan(), plan_with(0), rest(0, 0), check(), starts(0), slew(0, 0), observe(), close(0, 1)]
        self.assertEqual(results(*asked), 8 * [[-5]])
        session = results(load(POLES), *asked, night(speed=0), plan(), load("x"), plan(), load_of_a_tab(), plan())
        self.assertEqual(session, [[2], *8 * [[-5]], [-2], [-5], [-11, 1], [-5], [-1], [-5]])

    def test_errors_of_texts_and_nights_leave_the_plan(self):
        begun = [load(POLES), night(minutes=9), observe(0, 2), observe(1, 2)]
        wrong = [load("x"), load_of_a_tab(), night(minutes=241), observe(2), observe(0, 61), close(5, 5)]
        self.assertEqual(results(*begun, *wrong, plan())[4:], [
            [-11, 1], [-1], [-2], [-3], [-2], [-2], [2, 2, 1, 0, 0, 3],
        ])

    def test_an_empty_text(self):
        self.assertEqual(answers([0, 0] + night()), [1, 0, 1, 0])

    def test_what_is_handed_in_stays_as_it_was(self):
        calls = Unchangeable(ALL_OF_THEM)
        answers(calls)
        self.assertEqual(calls, ALL_OF_THEM)

    def test_nothing_is_kept(self):
        first = answers(ALL_OF_THEM)
        self.assertEqual(answers(starts(0)), [1, -5])
        self.assertEqual(results(night(), observe(0)), [[0], [-3]])
        self.assertEqual(answers(ALL_OF_THEM), first)

    def test_whole_numbers_are_given_back(self):
        answered = answers(ALL_OF_THEM)
        self.assertIs(type(answered), list)
        self.assertEqual({type(number) for number in answered}, {int})


def load_of_a_tab():
    return [0, 1, 9]


if __name__ == "__main__":
    unittest.main()
