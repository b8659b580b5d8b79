import unittest

from calls import POLES, close, last_result, load, night, observe, results, starts
from nightplans.telescope import answers

EXAMPLE = [
    load(POLES), night(0, 4, 0, 324000000, 300000000, 60000),
    observe(0, 1, 5, 0, 4), observe(1, 1, 7, 0, 4),
    observe(2, 1, 1, 0, 4), observe(0, 0, 1, 0, 4), close(3, 3),
    starts(0), close(1, 4), starts(1),
]


class Answers(unittest.TestCase):
    def test_examples(self):
        self.assertEqual(
            answers(sum(EXAMPLE, [])),
            [1, 2, 1, 0, 1, 0, 1, 1, 1, -3, 1, -2, 1, -2, 3, 1, 0, 3, 1, 1, 3, 1, 0, 0],
        )

    def test_an_error_of_a_text_has_two_numbers(self):
        self.assertEqual(answers(load("x") + load_of_a_tab()), [2, -11, 1, 1, -1])

    def test_no_range_is_one_number(self):
        self.assertEqual(last_result(load(POLES), night(minutes=1), observe(0, 2), starts(0)), [0])

    def test_thirty_calls(self):
        calls = [load(POLES), night(minutes=4)] + 28 * [observe(5)]
        self.assertEqual(results(*calls), [[2], [0]] + 28 * [[-3]])

    def test_four_full_texts(self):
        text = "#" + 5999 * "x"
        self.assertEqual(results(*4 * [load(text)]), 4 * [[0]])

    def test_an_empty_text(self):
        self.assertEqual(answers([0, 0] + night()), [1, 0, 1, 0])

    def test_what_is_handed_in_stays_as_it_was(self):
        calls = sum(EXAMPLE, [])
        before = list(calls)
        answers(calls)
        self.assertEqual(calls, before)

    def test_nothing_is_kept(self):
        first = answers(sum(EXAMPLE, []))
        self.assertEqual(answers(starts(0)), [1, -5])
        self.assertEqual(results(night(), observe(0)), [[0], [-3]])
        self.assertEqual(answers(sum(EXAMPLE, [])), first)

    def test_whole_numbers_are_given_back(self):
        answered = answers(sum(EXAMPLE, []))
        self.assertIs(type(answered), list)
        self.assertEqual({type(number) for number in answered}, {int})


def load_of_a_tab():
    return [0, 1, 9]


if __name__ == "__main__":
    unittest.main()
