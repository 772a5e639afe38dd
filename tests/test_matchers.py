import faulthandler
import itertools
import string
import unittest

from beadfit.errors import BeadError, NoPattern
from beadfit.matchers import finds, fits, longest, matcher
from beadfit.steps import fault

# Texts of point 4, and strings of which none may keep a text from being refused.
NO_PATTERNS = ("+", "a+", "aBc+", "ab", "", "*", "/", "a/", "A", "7", " ", "a ", "ab+c", "ab++", "ab+B", "abc/")
STRINGS = ["".join(beads) for length in range(5) for beads in itertools.product("abc", repeat=length)]
PIECES = ("", "a", "ab", "abc" * 10)


def fits_by_cuts(text, beads):
    """Points 2 and 3 word by word, on a pile of functions that ask each cut."""
    pile = []
    for sign in text:
        if sign in "+/":
            upper = pile.pop()
            lower = pile.pop()
            pile.append(then_by_cuts(lower, upper) if sign == "+" else or_by_cuts(lower, upper))
        elif sign == "*":
            pile.append(many_by_cuts(pile.pop()))
        else:
            pile.append(bead_by_cuts(sign))
    return pile.pop()(beads)


def bead_by_cuts(sign):
    return lambda beads: len(beads) == 1 and sign in (".", beads)


def then_by_cuts(lower, upper):
    return lambda beads: any(lower(beads[:cut]) and upper(beads[cut:]) for cut in range(len(beads) + 1))


def or_by_cuts(lower, upper):
    return lambda beads: lower(beads) or upper(beads)


def many_by_cuts(one):
    def told(beads):
        return beads == "" or any(one(beads[:cut]) and told(beads[cut:]) for cut in range(1, len(beads) + 1))

    return told


def longest_by_beginnings(text, beads):
    lengths = [end for end in range(len(beads) + 1) if fits_by_cuts(text, beads[:end])]
    return max(lengths) if lengths else None


def finds_by_words(text, beads):
    """Point 9 word by word: each piece by itself."""
    found = []
    place = 0
    while place < len(beads):
        ends = [end for end in range(place + 1, len(beads) + 1) if fits_by_cuts(text, beads[place:end])]
        if ends:
            found.append((place, max(ends)))
        place = max(ends) if ends else place + 1
    return found


def short_patterns():
    for length, signs in ((1, "abc.+/*"), (2, "abc.+/*"), (3, "abc.+/*"), (4, "abc.+/*"), (5, "ab+/*")):
        for row in itertools.product(signs, repeat=length):
            if fault("".join(row)) is None:
                yield "".join(row)


class TimelyCase(unittest.TestCase):
    # A run that does not end in good time is ended here, as a failure.
    def setUp(self):
        faulthandler.dump_traceback_later(30, exit=True)

    def tearDown(self):
        faulthandler.cancel_dump_traceback_later()


class Fits(TimelyCase):
    def check(self, text, yes, no):
        told = matcher(text)
        for beads in yes:
            self.assertIs(fits(text, beads), True, (text, beads))
            self.assertIs(told(beads), True, (text, beads))
        for beads in no:
            self.assertIs(fits(text, beads), False, (text, beads))
            self.assertIs(told(beads), False, (text, beads))

    def test_a_letter(self):
        for letter in string.ascii_lowercase:
            self.check(letter, [letter], [bead for bead in string.ascii_lowercase if bead != letter])
            self.check(letter, [], ["", letter + letter, letter + "a", "a" + letter])

    def test_any_bead(self):
        self.check(".", string.ascii_lowercase, ["", "ab", "aa", "abc"])

    def test_the_one_then_the_other(self):
        self.check("ab+", ["ab"], ["", "a", "b", "ba", "aab", "abb", "aba", "abab", "cab", "abc"])
        self.check("ba+", ["ba"], ["", "ab", "b", "a", "bab"])
        self.check("abc++", ["abc"], ["cba", "acb", "bca", "ab", "bc"])
        self.check("ab+c+", ["abc"], ["cab", "cba", "ab", "bc"])
        self.check(".a+", ["aa", "ba", "za"], ["a", "ab", "", "bba"])

    def test_a_piece_may_be_empty(self):
        self.check("ab*+", ["a", "ab", "abb", "abbb"], ["", "b", "ba", "aab", "aba", "abc"])
        self.check("a*b+", ["b", "ab", "aab"], ["", "a", "ba", "abb"])
        self.check("a*b*+", ["", "a", "b", "ab", "aabb"], ["ba", "aba", "c"])

    def test_a_cut_behind_the_first_that_could_be_made(self):
        self.check("a*a+", ["a", "aa", "aaa"], ["", "ab", "ba"])
        self.check("ab+a/bc++", ["abbc", "abc"], ["ab", "bc", "abb"])

    def test_the_one_or_the_other(self):
        self.check("ab/", ["a", "b"], ["", "c", "ab", "ba", "aa", "bb"])
        self.check("aa/", ["a"], ["", "b", "aa"])
        self.check("a./", ["a", "b"], ["", "aa"])
        self.check("ab+c/", ["ab", "c"], ["", "a", "b", "ac", "abc"])
        self.check("cab+/", ["ab", "c"], ["", "a", "b", "ac", "cb", "cab"])

    def test_many(self):
        self.check("a*", ["", "a", "aa", "a" * 30], ["b", "ab", "ba", "aab", "a" * 29 + "b"])
        self.check("ab+*", ["", "ab", "abab", "ab" * 15], ["a", "b", "aba", "abb", "ba", "aabb"])
        self.check("ab/*", ["", "a", "b", "ab", "ba", "bbaab"], ["c", "abc", "cab", "acb"])
        self.check(".*", ["", "a", "xyz", "q" * 30], [])
        self.check("..+*", ["", "ab", "abcd"], ["a", "abc", "abcde"])

    def test_many_of_a_pattern_that_the_empty_string_fits(self):
        self.check("a**", ["", "a", "aaa"], ["b", "ab", "ba"])
        self.check("ab*/*", ["", "a", "b", "ab", "ba", "bbabb"], ["c", "abc", "cb"])
        self.check("a*b*+*", ["", "ba", "abab", "bbaa"], ["c", "bac"])

    def test_pieces_of_different_lengths(self):
        self.check("aa+aaa++/*", ["", "aa", "aaa", "aaaa", "a" * 5, "a" * 30], ["a", "ab", "aab"])

    def test_short_patterns_with_all_short_strings(self):
        for text in short_patterns():
            told = matcher(text)
            for beads in STRINGS:
                asked = fits_by_cuts(text, beads)
                self.assertIs(fits(text, beads), asked, (text, beads))
                self.assertIs(told(beads), asked, (text, beads))


class Matchers(unittest.TestCase):
    def test_called_as_often_as_one_likes(self):
        told = matcher("ab*+")
        for count in range(3):
            answers = [told(beads) for beads in ("a", "", "abb", "b", "abb", "a", "ba", "")]
            self.assertEqual(answers, [True, False, True, False, True, True, False, False])

    def test_matchers_used_in_turn(self):
        first = matcher("ab+")
        second = matcher("ba+")
        third = matcher("ab/*")
        for count in range(3):
            self.assertEqual([told("ab") for told in (first, second, third)], [True, False, True])
            self.assertEqual([told("ba") for told in (third, second, first)], [True, True, False])
            self.assertEqual([told("") for told in (first, third, second)], [False, True, False])

    def test_matchers_made_in_a_row(self):
        matchers = [matcher(letter) for letter in string.ascii_lowercase]
        for letter, told in zip(string.ascii_lowercase, matchers):
            self.assertEqual([told(bead) for bead in string.ascii_lowercase].count(True), 1)
            self.assertIs(told(letter), True)

    def test_a_refused_text_leaves_other_matchers_as_they_are(self):
        told = matcher("a*")
        with self.assertRaises(NoPattern):
            matcher("a+")
        with self.assertRaises(NoPattern):
            fits("b+", "b")
        self.assertIs(told("aa"), True)
        self.assertIs(told("b"), False)

    def test_two_matchers_of_one_text(self):
        one = matcher("a.+")
        other = matcher("a.+")
        self.assertEqual([one("ab"), other("ba"), other("ab"), one("ba")], [True, False, True, False])


class Refused(unittest.TestCase):
    def test_when_the_matcher_is_made(self):
        for text in NO_PATTERNS:
            for taken in (NoPattern, BeadError, ValueError):
                with self.subTest(text=text), self.assertRaises(taken) as caught:
                    matcher(text)
                self.assertIs(type(caught.exception), NoPattern)

    def test_whatever_the_string(self):
        for asked in (fits, longest, finds):
            for text, beads in itertools.product(NO_PATTERNS, PIECES):
                for taken in (NoPattern, BeadError, ValueError):
                    with self.subTest(asked=asked, text=text, beads=beads), self.assertRaises(taken) as caught:
                        asked(text, beads)
                    self.assertIs(type(caught.exception), NoPattern)

    def test_three_hundred_signs(self):
        for text in ("a" * 300, "a" * 151 + "+" * 149, "a" * 150 + "+" * 150, "a" + "*" * 298 + "Z"):
            with self.subTest(text=text):
                self.assertRaises(NoPattern, matcher, text)
                for asked in (fits, longest, finds):
                    self.assertRaises(NoPattern, asked, text, "")


class Longest(TimelyCase):
    def check(self, text, beads, length):
        told = longest(text, beads)
        self.assertEqual(told, length, (text, beads))
        self.assertIs(type(told), type(length))

    def test_the_whole_string(self):
        self.check("a", "a", 1)
        self.check("ab*+", "abbb", 4)
        self.check(".*", "xyz", 3)
        self.check("ab/*", "abba" * 7 + "ab", 30)

    def test_a_beginning(self):
        self.check("a", "ab", 1)
        self.check("ab*+", "abba", 3)
        self.check(".", "xyz", 1)
        self.check("ab/*", "abcab", 2)

    def test_the_empty_beginning(self):
        self.check("a*", "", 0)
        self.check("a*", "b", 0)
        self.check("a*", "baa", 0)
        self.check("a*b*+", "cab", 0)

    def test_no_beginning(self):
        self.check("a", "", None)
        self.check("a", "b", None)
        self.check("a", "ba", None)
        self.check("ab+", "aab", None)
        self.check(".", "", None)
        self.check("..+", "a", None)

    def test_a_longer_one_behind_a_shorter_one_that_does_not_fit(self):
        self.check("ab+*", "abab", 4)
        self.check("ab+*", "ababa", 4)
        self.check("aab+b+/", "abb", 3)
        self.check("aab+b+/", "abba", 3)
        self.check("aab+b+/", "aba", 1)
        self.check("aaa++*", "a" * 8, 6)
        self.check("abc++", "abcab", 3)

    def test_short_patterns_with_all_short_strings(self):
        for text in short_patterns():
            for beads in STRINGS:
                self.check(text, beads, longest_by_beginnings(text, beads))


class Finds(TimelyCase):
    def check(self, text, beads, pairs):
        told = finds(text, beads)
        self.assertEqual(told, pairs, (text, beads))
        self.assertIs(type(told), list)
        for pair in told:
            self.assertIs(type(pair), tuple)
            self.assertEqual([type(number) for number in pair], [int, int])

    def test_example_of_point_9(self):
        self.check("ab*+", "cabbaba", [(1, 4), (4, 6), (6, 7)])

    def test_no_finds(self):
        self.check("a", "bcd", [])
        self.check("ab+", "ba", [])
        self.check("..+", "a", [])

    def test_the_empty_string(self):
        for text in ("a", ".", "a*", ".*", "ab+", "ab/", "a**"):
            self.check(text, "", [])

    def test_no_find_is_empty(self):
        self.check("a*", "bbb", [])
        self.check("a*", "baabab", [(1, 3), (4, 5)])
        self.check("a**", "ba", [(1, 2)])
        self.check("ab*/*", "cabc", [(1, 3)])
        self.check("a*b*+", "cbac", [(1, 2), (2, 3)])

    def test_finds_that_touch(self):
        self.check("a", "aaa", [(0, 1), (1, 2), (2, 3)])
        self.check("ab+", "abab", [(0, 2), (2, 4)])
        self.check(".", "xyz", [(0, 1), (1, 2), (2, 3)])
        self.check("..+", "abcde", [(0, 2), (2, 4)])

    def test_no_two_share_a_bead(self):
        self.check("aa+", "aaa", [(0, 2)])
        self.check("aba++", "ababa", [(0, 3)])
        self.check("aba++", "abababa", [(0, 3), (4, 7)])

    def test_the_longest_at_each_place(self):
        self.check("a*", "aaab", [(0, 3)])
        self.check("aab+b+/", "abba", [(0, 3), (3, 4)])
        self.check("aab+b+/", "abaabb", [(0, 1), (2, 3), (3, 6)])
        self.check(".*", "xyz", [(0, 3)])

    def test_the_last_bead(self):
        self.check("a", "bba", [(2, 3)])
        self.check("ab+", "bbab", [(2, 4)])

    def test_a_new_list_each_time(self):
        finds("a", "aa").clear()
        self.check("a", "aa", [(0, 1), (1, 2)])

    def test_short_patterns_with_all_short_strings(self):
        for text in short_patterns():
            for beads in STRINGS:
                self.check(text, beads, finds_by_words(text, beads))


class Sizes(TimelyCase):
    def check(self, text, beads, fitted, length, pairs):
        self.assertIs(matcher(text)(beads), fitted)
        self.assertIs(fits(text, beads), fitted)
        self.assertEqual(longest(text, beads), length)
        self.assertEqual(finds(text, beads), pairs)

    def test_thirty_beads_and_three_hundred_signs(self):
        for text in (
            "a" + "*" * 299,
            "a*" + "a*+" * 99 + "*",
            "a*" + "a*/" * 99 + "*",
            "a*" + "a+*" * 99 + "*",
            "a*" + "a/*" * 99 + "*",
            "a" * 150 + "/" * 149 + "*",
            "a*" * 100 + "+" * 99 + "*",
        ):
            with self.subTest(text=text):
                self.assertEqual(len(text), 300)
                self.check(text, "a" * 30, True, 30, [(0, 30)])
                self.check(text, "a" * 29 + "b", False, 29, [(0, 29)])
                self.check(text, "b" + "a" * 29, False, 0, [(1, 30)])

    def test_more_letters_than_beads(self):
        text = "a" * 150 + "+" * 149 + "*"
        self.check(text, "a" * 30, False, 0, [])

    def test_somewhat_beyond_the_bounds(self):
        self.check("a" + "*" * 2000, "a" * 40, True, 40, [(0, 40)])
        self.check("a" * 1500 + "/" * 1499, "a" * 35, False, 1, [(place, place + 1) for place in range(35)])
        self.check("a" * 60 + "+" * 59, "a" * 60, True, 60, [(0, 60)])


if __name__ == "__main__":
    unittest.main()
