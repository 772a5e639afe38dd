import itertools
import string
import unittest

from beadfit.steps import fault

STEP_SIGNS = string.ascii_lowercase + ".+/*"
# Point 1: texts are of the signs from the blank to `~`, but the per cent sign.
OTHER_SIGNS = [chr(code) for code in range(32, 127) if chr(code) not in STEP_SIGNS and code != 37]


def fault_by_pile(text):
    """Point 3 and 4 word by word, on a pile of written-out patterns."""
    pile = []
    for place in range(len(text)):
        sign = text[place]
        if sign in string.ascii_lowercase or sign == ".":
            pile.append(sign)
        elif sign in "+/" and len(pile) >= 2:
            upper = pile.pop()
            lower = pile.pop()
            pile.append((lower, sign, upper))
        elif sign == "*" and pile:
            pile.append((pile.pop(), sign))
        else:
            return place
    return None if len(pile) == 1 else len(text)


class Faults(unittest.TestCase):
    def check(self, text, place):
        told = fault(text)
        self.assertEqual(told, place, repr(text))
        if place is None:
            self.assertIsNone(told)
        else:
            self.assertIs(type(told), int)

    def test_examples_of_point_4(self):
        self.check("+", 0)
        self.check("a+", 1)
        self.check("aBc+", 1)
        self.check("ab", 2)
        self.check("", 0)
        self.check("a*", None)

    def test_examples_of_point_3(self):
        for text in ("ab+", "ab*+", "ab/*"):
            self.check(text, None)

    def test_every_letter_and_any_bead_write_a_pattern(self):
        for sign in string.ascii_lowercase + ".":
            self.check(sign, None)
            self.check(sign + sign + "+", None)
            self.check("a" + sign + "/", None)
            self.check(sign + "*", None)

    def test_signs_that_are_no_step(self):
        for sign in "A", "B", "Z", "0", "5", "9", " ", "`", "{":
            self.assertIn(sign, OTHER_SIGNS)
        for sign in OTHER_SIGNS:
            self.check(sign, 0)
            self.check("a" + sign, 1)
            self.check("ab" + sign + "+", 2)
            self.check("ab+" + sign, 3)
            self.check(sign + "+", 0)

    def test_blanks_are_not_passed_over(self):
        self.check(" a", 0)
        self.check("a ", 1)
        self.check("a b+", 1)

    def test_too_few_patterns_for_one_then_the_other(self):
        self.check("+", 0)
        self.check("a+", 1)
        self.check("ab++", 3)
        self.check("ab*++", 4)
        self.check("a+b", 1)

    def test_too_few_patterns_for_one_or_the_other(self):
        self.check("/", 0)
        self.check("a/", 1)
        self.check("ab//", 3)
        self.check("a*/", 2)
        self.check("a/b", 1)

    def test_too_few_patterns_for_many(self):
        self.check("*", 0)
        self.check("*a", 0)
        self.check("**", 0)

    def test_one_pattern_is_enough_for_many(self):
        self.check("a**", None)
        self.check("a*b*/*", None)
        self.check("ab+*", None)

    def test_two_patterns_or_more_are_left(self):
        self.check("ab", 2)
        self.check("..", 2)
        self.check("ab*", 3)
        self.check("abc", 3)
        self.check("abc+", 4)
        self.check("ab+cd/", 6)

    def test_the_first_fault_is_told(self):
        self.check("+B", 0)
        self.check("B+", 0)
        self.check("aB+", 1)
        self.check("a+B", 1)
        self.check("abB", 2)

    def test_three_hundred_signs(self):
        for text, place in (
            ("a" + "b+" * 149 + "*", None),
            ("a" * 150 + "+" * 149 + "*", None),
            ("a" * 150 + "/" * 149 + "*", None),
            ("a" + "*" * 299, None),
            ("a" * 300, 300),
            ("a" * 151 + "+" * 149, 300),
            ("a" * 150 + "+" * 150, 299),
            ("a" * 299 + "Z", 299),
            ("a" + "b+" * 149 + "/", 299),
            ("a" * 150 + "B" + "+" * 149, 150),
            ("*" * 300, 0),
        ):
            self.assertEqual(len(text), 300)
            self.check(text, place)

    def test_longer_texts_are_not_refused(self):
        self.check("a" * 1000 + "+" * 999, None)
        self.check("a" * 1000 + "+" * 998, 1998)
        self.check("a" * 1000 + "+" * 1000, 1999)

    def test_all_short_texts(self):
        for length in range(7):
            for signs in itertools.product("a.+/*B", repeat=length):
                text = "".join(signs)
                self.assertEqual(fault(text), fault_by_pile(text), repr(text))


if __name__ == "__main__":
    unittest.main()
