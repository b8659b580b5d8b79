import unittest

from calls import POLES, last_result, load, load_bytes, night, observe, results, starts
from nightplans.catalogue import read_catalogue

GOOD = ["a", "00:00:00.000", "+00:00:00.000", "1", "0", "0"]


def line(place, word):
    """A good line with another word at one place."""
    words = list(GOOD)
    words[place] = word
    return " ".join(words)


def many(count):
    return "\n".join([line(0, f"s{number}") for number in range(count)])


class LoadCounts(unittest.TestCase):
    def test_counts_of_stars(self):
        expected = {
            "": 0,
            "\n\n": 0,
            "   \n  ": 0,
            "# a\n  #b c\n#": 0,
            POLES: 2,
            POLES + "\n": 2,
            "\n # remark\n" + POLES + "\n\n#": 2,
            "  a   00:00:00.000  +00:00:00.000 1   0 0  ": 1,
            many(60): 60,
            many(60) + "\n# remark\n": 60,
        }
        for text, count in expected.items():
            with self.subTest(text=text):
                self.assertEqual(results(load(text)), [[count]])

    def test_replaces_the_catalogue(self):
        night_of_one = [load(POLES), load(line(0, "x")), night()]
        self.assertEqual(last_result(*night_of_one, observe(0)), [0])
        self.assertEqual(last_result(*night_of_one, observe(1)), [-3])
        self.assertEqual(last_result(load(POLES), load(""), night(), observe(0)), [-3])

    def test_drops_the_night(self):
        loaded = [load(POLES), night(), observe(0), load(POLES)]
        self.assertEqual(last_result(*loaded, starts(0)), [-5])
        self.assertEqual(last_result(*loaded, observe(0)), [-5])
        self.assertEqual(last_result(*loaded, night(), starts(0)), [-3])

    def test_an_error_changes_nothing(self):
        faulty = [
            (load_bytes([9]), [-1]),
            (load("x"), [-11, 1]),
            (load(line(0, "x") + "\n" + line(0, "x")), [-17, 2]),
            (load(many(61)), [-18, 61]),
        ]
        for call, error in faulty:
            with self.subTest(error=error):
                session = results(load(POLES), night(minutes=4), observe(1), call, starts(0), observe(1), observe(2))
                self.assertEqual(session[3:], [error, [1, 0, 3], [1], [-3]])
                self.assertEqual(last_result(load(POLES), call, night(), observe(1)), [0])


class LoadBytes(unittest.TestCase):
    def test_length(self):
        self.assertEqual(last_result(load("#" + 5999 * "x")), [0])
        self.assertEqual(last_result(load("#" + 6000 * "x")), [-1])
        self.assertEqual(last_result(load(6000 * "\n")), [0])
        self.assertEqual(last_result(load(6001 * "\n")), [-1])
        full = POLES + "\n" + (5999 - len(POLES)) * " "
        self.assertEqual(last_result(load(full)), [2])
        self.assertEqual(last_result(load(full + " ")), [-1])
        self.assertEqual(last_result(load_bytes(6100 * [32])), [-1])

    def test_allowed_bytes(self):
        for code in range(301):
            allowed = code == 10 or 32 <= code <= 126
            with self.subTest(code=code):
                self.assertEqual(last_result(load_bytes([35, code])) != [-1], allowed)

    def test_every_allowed_byte_may_stand_in_a_remark(self):
        self.assertEqual(last_result(load_bytes([35] + list(range(32, 127)))), [0])

    def test_bytes_are_checked_ahead_of_the_lines(self):
        self.assertEqual(last_result(load("x\n\t")), [-1])
        self.assertEqual(last_result(load("x" * 6001)), [-1])


class LoadWords(unittest.TestCase):
    def check(self, place, good, bad, kind):
        for word in good:
            with self.subTest(good=word):
                self.assertEqual(last_result(load(line(place, word))), [1])
        for word in bad:
            with self.subTest(bad=word):
                self.assertEqual(last_result(load(line(place, word))), [-10 - kind, 1])

    def test_number_of_words(self):
        for count in (1, 2, 5):
            self.assertEqual(last_result(load(" ".join(GOOD[:count]))), [-11, 1])
        self.assertEqual(last_result(load(" ".join(GOOD + ["0"]))), [-11, 1])
        self.assertEqual(last_result(load(" ".join(GOOD + ["#"]))), [-11, 1])

    def test_name(self):
        good = ["a", "z", "a-", "a--", "z09", "abcdefghijkl", "a-1234567890"]
        bad = ["A", "0", "9a", "-", "-a", "aB", "a_", "a.", "a:", "a#", "a+", "a?", "a~", "abcdefghijklm"]
        self.check(0, good, bad, 2)

    def test_right_ascension(self):
        good = ["00:00:00.000", "23:59:59.999", "09:08:07.060"]
        bad = [
            "24:00:00.000", "23:60:00.000", "23:00:60.000", "99:00:00.000", "1:00:00.000", "001:00:00.000",
            "00:00:00.00", "00:00:00.0000", "00:00:00", "00:00:00:000", "00.00:00.000", "00:00.00.000",
            "+00:00:00.000", "-0:00:00.000", "0a:00:00.000", "00:0a:00.000", "00:00:a0.000", "00:00:00.0a0", "0",
            "00:00:00.+00", "?0:00:00.000",
        ]
        self.check(1, good, bad, 3)

    def test_declination(self):
        good = ["+00:00:00.000", "-00:00:00.000", "+90:00:00.000", "-90:00:00.000", "+89:59:59.999", "-89:59:59.999"]
        bad = [
            "+90:00:00.001", "-90:00:00.001", "+90:00:01.000", "+90:01:00.000", "+91:00:00.000", "-99:00:00.000",
            "+89:60:00.000", "+89:00:60.000", "00:00:00.000", "000:00:00.000", "+0:00:00.000", "++0:00:00.000",
            "+000:00:00.000", "+00:00:00.00", "+00:00:00.0000", "+00:00:00", "+00:00.00.000", "+00:00:00:000",
            "+0x:00:00.000", "+00:0x:00.000", "+00:00:0x.000", "+00:00:00.00x", "+", "-", "*00:00:00.000",
        ]
        self.check(2, good, bad, 4)

    def test_magnitude(self):
        good = ["0", "-0", "9", "99", "-99", "01", "1.0", "-1.46", "12.345", "00.000"]
        bad = ["-", "100", "-100", "+1", "--1", "1.", ".5", "-.5", "1.2345", "1..2", "1.2.3", "1,5", "1-", "a", "1.a"]
        self.check(3, good, bad, 5)

    def test_motions(self):
        good = ["0", "-0", "1", "99999", "-99999", "00000", "-00001"]
        bad = ["-", "100000", "-100000", "000000", "+1", "--1", "1-", "1.0", "1.", "a", "1a", "1:0"]
        self.check(4, good, bad, 6)
        self.check(5, good, bad, 6)

    def test_name_taken(self):
        text = line(0, "a") + "\n" + line(0, "b") + "\n\n" + line(0, "a")
        self.assertEqual(last_result(load(text)), [-17, 4])
        self.assertEqual(last_result(load(line(0, "a") + "\n# a\n" + line(0, "aa"))), [2])

    def test_too_many_stars(self):
        self.assertEqual(last_result(load(many(60))), [60])
        self.assertEqual(last_result(load(many(61))), [-18, 61])
        self.assertEqual(last_result(load("\n" + many(60) + "\n#\n" + line(0, "t"))), [-18, 63])


class LoadOrder(unittest.TestCase):
    def test_kinds_within_a_line(self):
        words = ["A", "b", "c", "d", "e", "f"]
        self.assertEqual(last_result(load(" ".join(words[:5]))), [-11, 1])
        for place, kind in ((0, 2), (1, 3), (2, 4), (3, 5), (4, 6), (5, 6)):
            with self.subTest(kind=kind):
                self.assertEqual(last_result(load(" ".join(words))), [-10 - kind, 1])
            words[place] = GOOD[place]
        self.assertEqual(last_result(load(" ".join(words))), [1])

    def test_the_form_is_checked_ahead_of_a_taken_name_and_of_the_number_of_stars(self):
        taken = line(0, "s0")
        for text, kind in (
            (taken + " 0", 1), ("s0- ", 1), (taken.upper(), 2), ("s0" + line(1, "1")[1:], 3), ("s0" + line(2, "1")[1:], 4),
            ("s0" + line(3, "a")[1:], 5), ("s0" + line(5, "a")[1:], 6), (taken, 7), (line(0, "new"), 8),
        ):
            with self.subTest(kind=kind):
                self.assertEqual(last_result(load(many(60) + "\n" + text)), [-10 - kind, 61])

    def test_the_first_line_counts(self):
        text = line(0, "a") + "\n" + line(5, "x") + "\nx\n" + line(0, "X")
        self.assertEqual(last_result(load(text)), [-16, 2])

    def test_lines_are_counted_with_those_that_are_ignored(self):
        self.assertEqual(last_result(load("\n#\n  \n" + line(0, "a") + "\n bad ")), [-11, 5])
        self.assertEqual(last_result(load("\n\nx\n")), [-11, 3])


class LoadValues(unittest.TestCase):
    """What the words mean, in thousandths of an arc second."""

    def star(self, place, word):
        return read_catalogue(list(line(place, word).encode("ascii")))[0]

    def test_right_ascension(self):
        for word, angle in (
            ("00:00:00.001", 15), ("00:00:01.000", 15000), ("00:01:00.000", 900000), ("01:00:00.000", 54000000),
            ("23:59:59.999", 1295999985), ("12:34:56.789", 679451835),
        ):
            self.assertEqual(self.star(1, word).right_ascension, angle)

    def test_declination(self):
        for word, angle in (
            ("+00:00:00.001", 1), ("-00:00:00.001", -1), ("+00:00:01.000", 1000), ("+00:01:00.000", 60000),
            ("+01:00:00.000", 3600000), ("-90:00:00.000", -324000000), ("-12:34:56.789", -45296789),
            ("-00:00:00.000", 0),
        ):
            self.assertEqual(self.star(2, word).declination, angle)

    def test_motions(self):
        for word, angle in (("99999", 99999), ("-99999", -99999), ("00012", 12), ("-0", 0)):
            star = self.star(4, word)
            self.assertEqual((star.right_ascension_motion, star.declination_motion), (angle, 0))
            star = self.star(5, word)
            self.assertEqual((star.right_ascension_motion, star.declination_motion), (0, angle))


if __name__ == "__main__":
    unittest.main()
