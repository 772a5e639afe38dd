import faulthandler
import itertools
import string
import unittest

from beadfit.errors import BeadError, NoPattern
from beadfit.fitting import table_of
from beadfit.steps import fault

STRINGS = ["".join(beads) for length in range(5) for beads in itertools.product("abc", repeat=length)]
LENGTH = 4


def put_together(firsts, seconds):
    return {first + second for first in firsts for second in seconds if len(first + second) <= LENGTH}


def many_of(strings):
    found = {""}
    while True:
        more = found | put_together(found, strings)
        if more == found:
            return found
        found = more


def fitting_strings(text):
    """Points 2 and 3 word by word: all strings of `a`, `b`, `c` with at most four beads that fit."""
    pile = []
    for sign in text:
        if sign == ".":
            pile.append({"a", "b", "c"})
        elif sign == "*":
            pile.append(many_of(pile.pop()))
        elif sign in "+/":
            upper = pile.pop()
            lower = pile.pop()
            pile.append(put_together(lower, upper) if sign == "+" else lower | upper)
        else:
            pile.append({sign})
    return pile.pop()


def table_by_pieces(strings, beads):
    """Points 5 and 6 word by word: each piece by itself."""
    places = range(len(beads) + 1)
    return [[end for end in places if end >= place and beads[place:end] in strings] for place in places]


def patterns(signs, length):
    for row in itertools.product(signs, repeat=length):
        text = "".join(row)
        if fault(text) is None:
            yield text


class TableCase(unittest.TestCase):
    def check(self, text, beads, table):
        told = table_of(text, beads)
        self.assertIs(type(told), list)
        self.assertEqual(len(told), len(beads) + 1)
        for row in told:
            self.assertIs(type(row), list)
            for end in row:
                self.assertIs(type(end), int)
        self.assertEqual(told, table, (text, beads))


class Kinds(TableCase):
    def test_a_letter(self):
        self.check("a", "", [[]])
        self.check("a", "a", [[1], []])
        self.check("a", "b", [[], []])
        self.check("a", "aba", [[1], [], [3], []])
        self.check("z", "zaz", [[1], [], [3], []])

    def test_every_letter_fits_itself_alone(self):
        for letter in string.ascii_lowercase:
            for bead in string.ascii_lowercase:
                self.check(letter, bead, [[1], []] if letter == bead else [[], []])

    def test_any_bead(self):
        self.check(".", "", [[]])
        for bead in string.ascii_lowercase:
            self.check(".", bead, [[1], []])
        self.check(".", "azc", [[1], [2], [3], []])

    def test_the_one_then_the_other(self):
        self.check("ab+", "", [[]])
        self.check("ab+", "ab", [[2], [], []])
        self.check("ab+", "ba", [[], [], []])
        self.check("ab+", "aabab", [[], [3], [], [5], [], []])
        self.check("..+", "abc", [[2], [3], [], []])

    def test_the_lower_one_first(self):
        self.check("ba+", "ba", [[2], [], []])
        self.check("ba+", "ab", [[], [], []])
        self.check("abc++", "abc", [[3], [], [], []])
        self.check("ab+c+", "abc", [[3], [], [], []])
        self.check("abc++", "cba", [[], [], [], []])

    def test_one_of_two_pieces_may_be_empty(self):
        self.check("a*b+", "b", [[1], []])
        self.check("ab*+", "a", [[1], []])
        self.check("a*b*+", "", [[0]])
        self.check("a*b*+", "ab", [[0, 1, 2], [1, 2], [2]])
        self.check("a*b*+", "ba", [[0, 1], [1, 2], [2]])

    def test_the_one_or_the_other(self):
        self.check("ab/", "", [[]])
        self.check("ab/", "abc", [[1], [2], [], []])
        self.check("ab+a/", "ab", [[1, 2], [], []])
        self.check("aa/", "a", [[1], []])
        self.check("a./", "ab", [[1], [2], []])

    def test_many(self):
        self.check("a*", "", [[0]])
        self.check("a*", "aab", [[0, 1, 2], [1, 2], [2], [3]])
        self.check(".*", "xyz", [[0, 1, 2, 3], [1, 2, 3], [2, 3], [3]])
        self.check("ab+*", "ababa", [[0, 2, 4], [1], [2, 4], [3], [4], [5]])

    def test_many_of_a_pattern_that_the_empty_string_fits(self):
        self.check("a**", "", [[0]])
        self.check("a**", "aab", [[0, 1, 2], [1, 2], [2], [3]])
        self.check("ab*/*", "", [[0]])
        self.check("ab*/*", "abc", [[0, 1, 2], [1, 2], [2], [3]])
        self.check("ab*/*", "bab", [[0, 1, 2, 3], [1, 2, 3], [2, 3], [3]])

    def test_examples_of_point_3(self):
        self.check("ab*+", "abba", [[1, 2, 3], [], [], [4], []])
        self.check("ab/*", "abca", [[0, 1, 2], [1, 2], [2], [3, 4], [4]])


class AllShort(unittest.TestCase):
    def test_short_patterns_in_all_short_strings(self):
        for length in range(1, 5):
            for text in patterns("abc.+/*", length):
                strings = fitting_strings(text)
                for beads in STRINGS:
                    self.assertEqual(table_of(text, beads), table_by_pieces(strings, beads), (text, beads))

    def test_longer_patterns_in_some_strings(self):
        for length in (5, 6):
            for text in patterns("ab+/*", length):
                strings = fitting_strings(text)
                for beads in ("", "abab", "aabb", "baab", "bbca"):
                    self.assertEqual(table_of(text, beads), table_by_pieces(strings, beads), (text, beads))


class Refused(unittest.TestCase):
    def test_texts_that_write_no_pattern(self):
        for text in ("+", "a+", "aBc+", "ab", "", "*", "/", "a/", "A", "7", " ", "a ", "ab+c", "ab++", "ab+B"):
            for beads in ("", "a", "ab", "abc" * 10):
                for taken in (NoPattern, BeadError, ValueError):
                    with self.subTest(text=text, beads=beads), self.assertRaises(taken) as caught:
                        table_of(text, beads)
                    self.assertIs(type(caught.exception), NoPattern)

    def test_every_sign_that_is_no_step(self):
        # Point 1 leaves the per cent sign out of all texts.
        left_out = string.ascii_lowercase + ".+/*" + chr(37)
        for sign in [chr(code) for code in range(32, 127) if chr(code) not in left_out]:
            for text in (sign, "a" + sign, sign + "a", "ab" + sign + "+"):
                with self.subTest(text=text), self.assertRaises(NoPattern):
                    table_of(text, "ab")


class Answers(unittest.TestCase):
    def test_an_answer_may_be_changed_without_harm(self):
        for text in ("a", ".", "ab+", "ab/", "a*", "aa/"):
            before = table_of(text, "ab")
            told = table_of(text, "ab")
            for row in told:
                row.append(9)
            told.clear()
            self.assertEqual(table_of(text, "ab"), before)

    def test_rows_are_lists_of_their_own(self):
        for text in ("z", "zz+", "zz/", "a*"):
            told = table_of(text, "aaa")
            self.assertEqual(len({id(row) for row in told}), 4)


class Sizes(TableCase):
    # A run that does not end in good time is ended here, as a failure.
    def setUp(self):
        faulthandler.dump_traceback_later(30, exit=True)

    def tearDown(self):
        faulthandler.cancel_dump_traceback_later()

    def test_thirty_beads_and_three_hundred_signs(self):
        all_pieces = [list(range(place, 31)) for place in range(31)]
        for text in ("." + "*" * 299, ".*" + ".*+" * 99 + "*", "." * 150 + "/" * 149 + "*", "." + ".*/" * 99 + "**"):
            self.assertEqual(len(text), 300)
            self.check(text, "abc" * 10, all_pieces)

    def test_a_deep_pile(self):
        whole = [[30]] + [[] for place in range(30)]
        self.check("a" * 30 + "+" * 29, "a" * 30, whole)
        self.check("a" * 30 + "b*" * 90 + "+" * 119, "a" * 30, whole)

    def test_somewhat_beyond_the_bounds(self):
        self.check("a" * 60 + "+" * 59, "a" * 60, [[60]] + [[] for place in range(60)])
        self.check("a" + "*" * 2000, "b" * 40, [[place] for place in range(41)])
        self.check("a" * 1500 + "/" * 1499, "ab" * 20, [[p + 1] if p % 2 == 0 and p < 40 else [] for p in range(41)])


if __name__ == "__main__":
    unittest.main()
