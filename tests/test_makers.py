import copy
import unittest

from beadfit.makers import bead_table, table_by


class BeadTable(unittest.TestCase):
    def test_a_letter(self):
        self.assertEqual(bead_table("a", "abca"), [[1], [], [], [4], []])
        self.assertEqual(bead_table("z", "abca"), [[], [], [], [], []])

    def test_any_bead(self):
        self.assertEqual(bead_table(".", "abca"), [[1], [2], [3], [4], []])

    def test_the_empty_string_has_one_row(self):
        self.assertEqual(bead_table("a", ""), [[]])
        self.assertEqual(bead_table(".", ""), [[]])

    def test_rows_are_lists_of_their_own(self):
        table = bead_table("z", "abc")
        table[0].append(1)
        self.assertEqual(table, [[1], [], [], []])
        self.assertEqual(bead_table("z", "abc"), [[], [], [], []])


class TableBy(unittest.TestCase):
    FIRST = [[1], [], []]
    SECOND = [[], [2], []]

    def test_each_step(self):
        self.assertEqual(table_by("a", [], "ab"), [[1], [], []])
        self.assertEqual(table_by(".", [], "ab"), [[1], [2], []])
        self.assertEqual(table_by("+", [self.FIRST, self.SECOND], "ab"), [[2], [], []])
        self.assertEqual(table_by("/", [self.FIRST, self.SECOND], "ab"), [[1], [2], []])
        self.assertEqual(table_by("*", [self.FIRST], "ab"), [[0, 1], [1], [2]])

    def test_the_lower_table_comes_first(self):
        self.assertEqual(table_by("+", [self.SECOND, self.FIRST], "ab"), [[], [], []])

    def test_the_tables_are_not_changed(self):
        for sign in "+/*":
            taken = [copy.deepcopy(self.FIRST), copy.deepcopy(self.SECOND)]
            table_by(sign, taken, "ab")
            self.assertEqual(taken, [self.FIRST, self.SECOND])


if __name__ == "__main__":
    unittest.main()
