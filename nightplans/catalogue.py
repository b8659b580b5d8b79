"""Texts of catalogues: from a list of bytes to a list of stars."""

from nightplans.angles import QUARTER

LINE_FEED = 10
MOST_STARS = 60
SIGNS = " \nabcdefghijklmnopqrstuvwxyz0123456789+-:.#"
SMALL_LETTERS = "abcdefghijklmnopqrstuvwxyz"
NAME_SIGNS = "abcdefghijklmnopqrstuvwxyz0123456789-"
SEXAGESIMAL = "dd:dd:dd.ddd"

WORD_COUNT = 1
NAME = 2
RIGHT_ASCENSION = 3
DECLINATION = 4
MAGNITUDE = 5
MOTION = 6
NAME_TAKEN = 7
TOO_MANY_STARS = 8


class TextError(Exception):
    """The first error of a text: its kind and the number of its line."""

    def __init__(self, kind, line):
        Exception.__init__(self, kind, line)
        self.kind = kind
        self.line = line


class Star:
    """What is asked of a star later on; no call asks for name or magnitude."""

    def __init__(self, words):
        # A second of right ascension is fifteen seconds of arc.
        self.right_ascension = 15 * thousandths(words[1])
        self.declination = signed_declination(words[2])
        self.right_ascension_motion = int(words[4])
        self.declination_motion = int(words[5])


def read_catalogue(codes):
    """The stars of a text of allowed bytes; raises TextError at its first error."""
    stars = []
    names = {}
    for number, line in enumerate(text_of(codes).split("\n"), start=1):
        words = line.split()
        if len(words) == 0 or words[0].startswith("#"):
            continue
        kind = kind_of_error(words, names)
        if kind > 0:
            raise TextError(kind, number)
        names[words[0]] = True
        stars.append(Star(words))
    return stars


def text_of(codes):
    # A sign that no well-formed word holds is only ever refused or passed over
    # in a remark, so one question mark stands for all of them.
    signs = {}
    for sign in SIGNS:
        signs[ord(sign)] = sign
    return "".join([signs.get(code, "?") for code in codes])


def kind_of_error(words, names):
    """The kind of the first error of a star's line, or 0."""
    if len(words) != 6:
        return WORD_COUNT
    if not is_name(words[0]):
        return NAME
    if not is_right_ascension(words[1]):
        return RIGHT_ASCENSION
    if not is_declination(words[2]):
        return DECLINATION
    if not is_magnitude(words[3]):
        return MAGNITUDE
    if not is_motion(words[4]) or not is_motion(words[5]):
        return MOTION
    if words[0] in names:
        return NAME_TAKEN
    if len(names) == MOST_STARS:
        return TOO_MANY_STARS
    return 0


def is_name(word):
    if len(word) > 12 or word[0] not in SMALL_LETTERS:
        return False
    return all([sign in NAME_SIGNS for sign in word])


def is_right_ascension(word):
    return is_sexagesimal(word) and int(word[0:2]) < 24


def is_declination(word):
    if word[0] not in "+-" or not is_sexagesimal(word[1:]):
        return False
    return thousandths(word[1:]) <= QUARTER


def is_magnitude(word):
    whole, point, part = without_minus(word).partition(".")
    return is_digits(whole, 2) and (point == "" or is_digits(part, 3))


def is_motion(word):
    return is_digits(without_minus(word), 5)


def is_sexagesimal(word):
    return has_form(word, SEXAGESIMAL) and int(word[3:5]) < 60 and int(word[6:8]) < 60


def has_form(word, form):
    """Whether a word is like a form, in which d stands for a digit."""
    if len(word) != len(form):
        return False
    for sign, wanted in zip(word, form):
        if wanted == "d":
            if not sign.isdigit():
                return False
        elif sign != wanted:
            return False
    return True


def is_digits(word, most):
    return word.isdigit() and len(word) <= most


def without_minus(word):
    if word.startswith("-"):
        return word[1:]
    return word


def thousandths(word):
    """A sexagesimal word in thousandths of its last unit."""
    minutes = 60 * int(word[0:2]) + int(word[3:5])
    return 1000 * (60 * minutes + int(word[6:8])) + int(word[9:12])


def signed_declination(word):
    if word[0] == "-":
        return -thousandths(word[1:])
    return thousandths(word[1:])
