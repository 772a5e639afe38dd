import copy
import faulthandler
import itertools
import unittest

from beadfit.tables import either, joined, many


def pieces_of(table):
    return {(place, end) for place, row in enumerate(table) for end in row}


def table_with(pieces, rows):
    return [sorted(end for start, end in pieces if start == place) for place in range(rows)]


def all_tables(rows):
    every = [(place, end) for place in range(rows) for end in range(place, rows)]
    for count in range(len(every) + 1):
        for pieces in itertools.combinations(every, count):
            yield table_with(pieces, rows)


def joined_by_cuts(first, second):
    pieces = {(a, d) for a, b in pieces_of(first) for c, d in pieces_of(second) if b == c}
    return table_with(pieces, len(first))


def either_by_pieces(one, other):
    return table_with(pieces_of(one) | pieces_of(other), len(one))


def many_by_rounds(told):
    """Adds one more piece at the end, until nothing new comes."""
    found = {(place, place) for place in range(len(told))}
    while True:
        more = found | {(a, d) for a, b in found for c, d in pieces_of(told) if b == c}
        if more == found:
            return table_with(found, len(told))
        found = more


def full(rows):
    return [list(range(place, rows)) for place in range(rows)]


def empties(rows):
    return [[place] for place in range(rows)]


def nothing(rows):
    return [[] for place in range(rows)]


def steps_of(size, rows):
    """All pieces of just `size` beads."""
    return [[place + size] if place + size < rows else [] for place in range(rows)]


class TableCase(unittest.TestCase):
    # A run that does not end in good time is ended here, as a failure.
    def setUp(self):
        faulthandler.dump_traceback_later(20, exit=True)

    def tearDown(self):
        faulthandler.cancel_dump_traceback_later()

    def check(self, told, table):
        self.assertIs(type(told), list)
        for row in told:
            self.assertIs(type(row), list)
        self.assertEqual(told, table)


class Joined(TableCase):
    def test_ordinary_tables(self):
        self.check(joined([[1], [], []], [[], [2], []]), [[2], [], []])
        self.check(joined([[1, 2], [3], [], []], [[], [2], [2, 3], []]), [[2, 3], [], [], []])
        self.check(joined(steps_of(1, 5), steps_of(2, 5)), steps_of(3, 5))

    def test_the_order_counts(self):
        self.check(joined([[], [2], []], [[1], [], []]), [[], [], []])

    def test_pieces_that_do_not_meet(self):
        self.check(joined([[1], [], [], []], [[], [], [3], []]), nothing(4))

    def test_one_row(self):
        self.check(joined([[0]], [[0]]), [[0]])
        self.check(joined([[]], [[0]]), [[]])
        self.check(joined([[0]], [[]]), [[]])
        self.check(joined([[]], [[]]), [[]])

    def test_empty_rows(self):
        self.check(joined(nothing(3), full(3)), nothing(3))
        self.check(joined(full(3), nothing(3)), nothing(3))
        self.check(joined([[], [1, 2], []], [[2], [], [2]]), [[], [2], []])

    def test_empty_pieces(self):
        told = [[0, 2], [3], [], [3]]
        self.check(joined(empties(4), told), told)
        self.check(joined(told, empties(4)), told)
        self.check(joined(empties(4), empties(4)), empties(4))

    def test_a_piece_with_several_cuts_stands_once(self):
        self.check(joined([[1, 2], [], [], []], [[], [3], [3], []]), [[3], [], [], []])
        self.check(joined(full(4), full(4)), full(4))

    def test_rows_from_the_least_to_the_greatest(self):
        self.check(joined([[1, 2], [], [], [], []], [[], [4], [2, 3], [], []]), [[2, 3, 4], [], [], [], []])
        first = [[1, 2, 3]] + nothing(11)
        second = [[], [11], [10], [9]] + nothing(8)
        self.check(joined(first, second), [[9, 10, 11]] + nothing(11))

    def test_thirty_one_rows(self):
        self.check(joined(full(31), full(31)), full(31))
        self.check(joined(steps_of(10, 31), steps_of(20, 31)), steps_of(30, 31))
        self.check(joined(steps_of(1, 31), full(31)), [list(range(place + 1, 31)) for place in range(31)])

    def test_more_rows_are_not_refused(self):
        self.check(joined(full(60), full(60)), full(60))

    def test_all_small_tables(self):
        for rows in (1, 2, 3):
            for first, second in itertools.product(list(all_tables(rows)), repeat=2):
                self.check(joined(first, second), joined_by_cuts(first, second))


class Either(TableCase):
    def test_ordinary_tables(self):
        self.check(either([[1], [], []], [[], [2], []]), [[1], [2], []])
        self.check(either([[0, 2], [2], []], [[1], [1], [2]]), [[0, 1, 2], [1, 2], [2]])

    def test_one_row(self):
        self.check(either([[0]], [[0]]), [[0]])
        self.check(either([[]], [[0]]), [[0]])
        self.check(either([[0]], [[]]), [[0]])
        self.check(either([[]], [[]]), [[]])

    def test_empty_rows(self):
        told = [[0, 2], [], [2]]
        self.check(either(nothing(3), told), told)
        self.check(either(told, nothing(3)), told)
        self.check(either(nothing(3), nothing(3)), nothing(3))

    def test_empty_pieces(self):
        self.check(either(empties(3), steps_of(1, 3)), [[0, 1], [1, 2], [2]])
        self.check(either(empties(3), empties(3)), empties(3))

    def test_a_piece_that_both_tell_of_stands_once(self):
        self.check(either([[1, 2], [2], []], [[0, 1, 2], [2], []]), [[0, 1, 2], [2], []])
        self.check(either(full(4), full(4)), full(4))

    def test_rows_from_the_least_to_the_greatest(self):
        self.check(either([[3, 11]] + nothing(11), [[2, 9, 10]] + nothing(11)), [[2, 3, 9, 10, 11]] + nothing(11))

    def test_thirty_one_rows(self):
        self.check(either(full(31), nothing(31)), full(31))
        self.check(either(steps_of(30, 31), empties(31)), [[0, 30]] + empties(31)[1:])

    def test_more_rows_are_not_refused(self):
        self.check(either(full(60), steps_of(1, 60)), full(60))

    def test_all_small_tables(self):
        for rows in (1, 2, 3):
            for one, other in itertools.product(list(all_tables(rows)), repeat=2):
                self.check(either(one, other), either_by_pieces(one, other))


class Many(TableCase):
    def test_ordinary_tables(self):
        self.check(many([[1], [], []]), [[0, 1], [1], [2]])
        self.check(many([[2], [], []]), [[0, 2], [1], [2]])

    def test_chains_of_several_pieces(self):
        self.check(many(steps_of(1, 4)), full(4))
        self.check(many(steps_of(2, 6)), [[0, 2, 4], [1, 3, 5], [2, 4], [3, 5], [4], [5]])
        self.check(many([[1], [3], [], [4], []]), [[0, 1, 3, 4], [1, 3, 4], [2], [3, 4], [4]])

    def test_a_chain_needs_pieces_that_meet(self):
        self.check(many([[1], [], [3], []]), [[0, 1], [1], [2, 3], [3]])

    def test_a_table_that_tells_of_nothing(self):
        for rows in (1, 2, 5, 31):
            self.check(many(nothing(rows)), empties(rows))

    def test_one_row(self):
        self.check(many([[]]), [[0]])
        self.check(many([[0]]), [[0]])

    def test_empty_rows(self):
        self.check(many([[], [2], [], []]), [[0], [1, 2], [2], [3]])

    def test_empty_pieces(self):
        self.check(many(empties(4)), empties(4))
        self.check(many([[0, 1], [1, 2], [2]]), full(3))
        self.check(many([[0, 2], [], [2, 3], []]), [[0, 2, 3], [1], [2, 3], [3]])

    def test_a_piece_with_several_cuts_stands_once(self):
        self.check(many([[1, 2, 3], [2, 3], [3], []]), full(4))
        self.check(many([[1, 2], [3], [3], []]), [[0, 1, 2, 3], [1, 3], [2, 3], [3]])

    def test_rows_from_the_least_to_the_greatest(self):
        told = [[1, 2], [11], [9, 10]] + nothing(9)
        self.check(many(told), [[0, 1, 2, 9, 10, 11], [1, 11], [2, 9, 10]] + empties(12)[3:])

    def test_thirty_one_rows(self):
        self.check(many(steps_of(1, 31)), full(31))
        self.check(many(full(31)), full(31))
        self.check(many(steps_of(7, 31)), [list(range(place, 31, 7)) for place in range(31)])

    def test_more_rows_are_not_refused(self):
        self.check(many(steps_of(1, 60)), full(60))

    def test_all_small_tables(self):
        for rows in (1, 2, 3, 4):
            for told in all_tables(rows):
                self.check(many(told), many_by_rounds(told))


class HandedIn(TableCase):
    def pairs(self):
        yield [[0, 1, 2], [1], []], [[], [1, 2], [2]]
        yield nothing(3), full(3)
        yield full(31), steps_of(1, 31)
        yield [[0]], [[]]
        # Equal rows: an answer could hand one of them back as it is.
        yield [[0, 1], [1]], [[0, 1], [1]]
        yield empties(3), empties(3)

    def spoil(self, table):
        for row in table:
            row.append(-1)
        table.append([-1])

    def check_untouched(self, make, tables):
        before = copy.deepcopy(tables)
        answer = make(*tables)
        again = copy.deepcopy(answer)
        self.assertEqual(tables, before)
        # A row that is shared with the answer would change with it.
        self.spoil(answer)
        self.assertEqual(tables, before)
        self.assertEqual(make(*tables), again)

    def test_tables_are_the_same_afterwards(self):
        for one, other in self.pairs():
            self.check_untouched(joined, [one, other])
            self.check_untouched(joined, [other, one])
            self.check_untouched(either, [one, other])
            self.check_untouched(either, [other, one])
            self.check_untouched(many, [one])
            self.check_untouched(many, [other])

    def test_one_table_handed_in_twice(self):
        told = [[0, 1], [2], []]
        self.check(joined(told, told), [[0, 1, 2], [], []])
        self.check(either(told, told), [[0, 1], [2], []])
        self.assertEqual(told, [[0, 1], [2], []])

    def test_rows_of_an_answer_are_not_shared(self):
        for answer in (joined(full(4), full(4)), either(nothing(4), nothing(4)), many(steps_of(1, 4))):
            self.assertEqual(len({id(row) for row in answer}), 4)


if __name__ == "__main__":
    unittest.main()
